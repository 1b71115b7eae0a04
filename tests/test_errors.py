"""The classes of mostspent.errors: their bases, their fields, and how they are caught."""

import unittest

from mostspent import errors

BASES = {
    "MostspentError": ValueError,
    "InvalidLine": errors.MostspentError,
    "InvalidMachine": errors.MostspentError,
    "WordTooLong": errors.MostspentError,
    "TooManyTables": errors.MostspentError,
    "TooManyPossibilities": errors.MostspentError,
    "NoBound": errors.MostspentError,
    "DifferentLetters": errors.MostspentError,
    "MachineTooLarge": errors.MostspentError,
    "BenchError": errors.MostspentError,
    "InvalidStep": errors.BenchError,
    "TooManySteps": errors.BenchError,
    "NoSuchStep": errors.BenchError,
    "TooManyChanges": errors.BenchError,
    "NoChange": errors.BenchError,
}
MADE_WITH = {"InvalidLine": 7, "InvalidMachine": "lasts", "NoSuchStep": 12}
BENCH_ERRORS = ("BenchError", "InvalidStep", "TooManySteps", "NoSuchStep", "TooManyChanges", "NoChange")


def made(name):
    """An error of the class with this name."""
    if name in MADE_WITH:
        return getattr(errors, name)(MADE_WITH[name])
    return getattr(errors, name)("why")


class ErrorClasses(unittest.TestCase):
    def test_each_class_has_its_base_class(self):
        for name, base in BASES.items():
            with self.subTest(name=name):
                self.assertEqual(getattr(errors, name).__bases__, (base,))
                self.assertEqual(getattr(errors, name).__module__, "mostspent.errors")

    def test_each_error_is_caught_as_itself_as_mostspent_error_and_as_value_error(self):
        for name in BASES:
            for caught in (getattr(errors, name), errors.MostspentError, ValueError):
                with self.subTest(name=name, caught=caught.__name__):
                    with self.assertRaises(caught):
                        raise made(name)

    def test_exactly_the_bench_errors_are_caught_as_bench_error(self):
        for name in BASES:
            with self.subTest(name=name):
                self.assertEqual(isinstance(made(name), errors.BenchError), name in BENCH_ERRORS)

    def test_errors_without_a_field_are_made_without_arguments_too(self):
        for name in BASES:
            if name not in MADE_WITH:
                with self.subTest(name=name), self.assertRaises(getattr(errors, name)):
                    raise getattr(errors, name)

    def test_no_error_is_caught_as_one_beside_it(self):
        for name in BASES:
            for other in BASES:
                if not issubclass(getattr(errors, name), getattr(errors, other)):
                    with self.subTest(name=name, other=other):
                        self.assertNotIsInstance(made(name), getattr(errors, other))


class Fields(unittest.TestCase):
    def test_invalid_line_keeps_its_number(self):
        for number in (0, 1, 999):
            self.assertEqual(errors.InvalidLine(number).number, number)
        self.assertEqual(errors.InvalidLine(number=5).number, 5)

    def test_invalid_machine_keeps_its_word(self):
        for word in ("states", "counters", "letters", "steps", "firsts", "lasts"):
            self.assertEqual(errors.InvalidMachine(word).word, word)
        self.assertEqual(errors.InvalidMachine(word="steps").word, "steps")

    def test_no_such_step_keeps_its_number(self):
        for number in (-1, 0, 100):
            self.assertEqual(errors.NoSuchStep(number).number, number)
        self.assertEqual(errors.NoSuchStep(number=5).number, 5)

    def test_the_field_is_needed(self):
        for name in MADE_WITH:
            with self.subTest(name=name), self.assertRaises(TypeError):
                getattr(errors, name)()


if __name__ == "__main__":
    unittest.main()
