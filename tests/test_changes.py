"""Points 33 and 34: machines put together, and machines with other letters."""

import random
import unittest

from mostspent.changes import join, renamed
from mostspent.costs import cost
from mostspent.errors import MachineTooLarge, MostspentError
from mostspent.machines import fault
from tests import plain
from tests.test_costs import words

FIRST = (2, 1, 2, ((0, 0, 1, 1), (1, 1, 0, 2)), (0,), (1, 0))
SECOND = (3, 2, 1, ((0, 2, 1, 4), (0, 0, 2, 3), (0, 0, 2, 3)), (2, 0), (1,))


def stepping(states, many):
    """A machine with these states and so many steps."""
    return (states, 0, 1, ((0, 0, 0, 0),) * many, (0,), (0,))


class Joined(unittest.TestCase):
    def check(self, first, second, expected):
        with self.subTest(first=first, second=second):
            self.assertEqual(join(first, second), expected)

    def test_to_the_step(self):
        self.check(
            FIRST, SECOND,
            (5, 2, 2, ((0, 0, 1, 1), (1, 1, 0, 2), (0, 4, 3, 4), (0, 2, 4, 3), (0, 2, 4, 3)), (0, 4, 2), (1, 0, 3)),
        )
        self.check(
            SECOND, FIRST,
            (5, 2, 2, ((0, 2, 1, 4), (0, 0, 2, 3), (0, 0, 2, 3), (0, 3, 4, 1), (1, 4, 3, 2)), (2, 0, 3), (1, 4, 3)),
        )

    def test_a_machine_with_itself(self):
        self.check(
            FIRST, FIRST,
            (4, 1, 2, ((0, 0, 1, 1), (1, 1, 0, 2), (0, 2, 3, 1), (1, 3, 2, 2)), (0, 2), (1, 0, 3, 2)),
        )

    def test_the_greater_numbers_of_counters_and_of_letters(self):
        for one in (0, 1, 2, 3):
            for other in (0, 1, 2, 3):
                made = join((1, one, 4 - one, (), (), ()), (2, other, 4 - other, (), (), ()))
                self.assertEqual(made, (3, max(one, other), max(4 - one, 4 - other), (), (), ()))

    def test_empty_parts(self):
        self.check((1, 0, 1, (), (), ()), (1, 0, 1, (), (0,), ()), (2, 0, 1, (), (1,), ()))
        self.check((1, 0, 1, (), (), (0,)), (1, 0, 1, (), (), (0,)), (2, 0, 1, (), (), (0, 1)))

    def test_6_states_and_7(self):
        for one in range(1, 7):
            for other in range(1, 7):
                first, second = (one, 0, 1, (), (0,), (0,)), (other, 0, 1, (), (0,), (0,))
                if one + other <= 6:
                    self.check(first, second, (one + other, 0, 1, (), (0, one), (0, one)))
                else:
                    self.check_too_large(first, second)

    def test_100_steps_and_101(self):
        for one, other in ((0, 100), (100, 0), (50, 50), (99, 1), (1, 99)):
            made = join(stepping(1, one), stepping(2, other))
            self.assertEqual(len(made[3]), 100)
            self.assertEqual(made[3], ((0, 0, 0, 0),) * one + ((0, 1, 1, 0),) * other)
            self.assertIsNone(fault(made))
        for one, other in ((1, 100), (100, 1), (50, 51), (51, 50), (100, 100)):
            self.check_too_large(stepping(1, one), stepping(2, other))

    def check_too_large(self, first, second):
        with self.subTest(first=first, second=second), self.assertRaises(MachineTooLarge) as caught:
            join(first, second)
        self.assertIsInstance(caught.exception, MostspentError)

    def test_words_cost_what_they_cost_the_cheaper_machine(self):
        source = random.Random(90)
        kinds = {"neither": 0, "one": 0, "both": 0}
        for _ in range(200):
            first, second = (plain.random_machine(source, 3, 2, 2, 7) for _ in range(2))
            made = join(first, second)
            self.assertIsNone(fault(made))
            for word in words(made[2], 4):
                costs = [cost(machine, word) for machine in (first, second)]
                known = [number for number in costs if number is not None]
                self.assertEqual(cost(made, word), min(known, default=None))
                kinds[("neither", "one", "both")[len(known)]] += 1
        self.assertGreater(min(kinds.values()), 40)

    def test_the_kinds_of_values(self):
        made = join(FIRST, SECOND)
        self.assertIs(type(made), tuple)
        self.assertEqual([type(part) for part in made], [int, int, int, tuple, tuple, tuple])
        self.assertEqual({type(step) for step in made[3]}, {tuple})


class Renamed(unittest.TestCase):
    MACHINE = (2, 1, 3, ((0, 0, 1, 1), (1, 1, 0, 2), (2, 0, 0, 0), (0, 1, 1, 2)), (0, 1), (1,))

    def check(self, letters, names, new):
        """The letters of the steps are the new ones, and nothing else has changed."""
        steps = tuple((letter,) + step[1:] for letter, step in zip(new, self.MACHINE[3], strict=True))
        with self.subTest(letters=letters, names=names):
            self.assertEqual(renamed(self.MACHINE, letters, names), (2, 1, letters, steps, (0, 1), (1,)))

    def test_letters_in_another_order(self):
        self.check(3, (0, 1, 2), (0, 1, 2, 0))
        self.check(3, (2, 0, 1), (2, 0, 1, 2))
        self.check(3, (1, 0, 2), (1, 0, 2, 1))

    def test_the_same_letter_for_several(self):
        self.check(3, (1, 1, 2), (1, 1, 2, 1))
        self.check(3, (2, 2, 2), (2, 2, 2, 2))

    def test_fewer_letters(self):
        self.check(1, (0, 0, 0), (0, 0, 0, 0))
        self.check(2, (1, 0, 1), (1, 0, 1, 1))

    def test_more_letters(self):
        self.check(4, (3, 1, 0), (3, 1, 0, 3))
        self.check(4, (0, 1, 2), (0, 1, 2, 0))

    def test_equal_steps_stay(self):
        machine = (1, 0, 2, ((0, 0, 0, 0), (1, 0, 0, 0)), (0,), (0,))
        self.assertEqual(renamed(machine, 1, (0, 0)), (1, 0, 1, ((0, 0, 0, 0),) * 2, (0,), (0,)))

    def test_no_steps(self):
        self.assertEqual(renamed((1, 0, 2, (), (), (0,)), 3, (2, 2)), (1, 0, 3, (), (), (0,)))

    def test_what_words_cost(self):
        source = random.Random(91)
        for _ in range(100):
            machine = plain.random_machine(source, 3, 2, 3, 8)
            letters = source.randint(1, 4)
            # A different new letter for each letter of the machine, so that words correspond.
            if letters >= machine[2]:
                names = tuple(source.sample(range(letters), machine[2]))
                made = renamed(machine, letters, names)
                self.assertIsNone(fault(made))
                for word in words(machine[2], 4):
                    self.assertEqual(cost(made, [names[letter] for letter in word]), cost(machine, word))

    def test_the_kinds_of_values(self):
        made = renamed(self.MACHINE, 2, (0, 1, 0))
        self.assertIs(type(made), tuple)
        self.assertEqual([type(part) for part in made], [int, int, int, tuple, tuple, tuple])
        self.assertEqual({type(step) for step in made[3]}, {tuple})


if __name__ == "__main__":
    unittest.main()
