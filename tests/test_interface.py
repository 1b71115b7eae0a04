"""The functions and the class that the document lists, where they are defined, their arguments, and the examples."""

import doctest
import importlib
import inspect
import unittest

FUNCTIONS = {
    "mostspent.machines": {"fault": ["machine"], "applied": ["action", "counters"]},
    "mostspent.notation": {"format_machine": ["machine"], "parse_machine": ["text"]},
    "mostspent.costs": {"cost": ["machine", "word"], "cheapest": ["machine", "word"]},
    "mostspent.tables": {
        "best": ["values"],
        "along": ["first", "second"],
        "letter_table": ["machine", "letter"],
        "in_sequence": ["first", "second"],
        "is_stable": ["table"],
        "repeated": ["table"],
        "best_value": ["machine", "table"],
    },
    "mostspent.recipes": {"tables_of": ["machine", "recipe"], "word_of": ["recipe", "times"]},
    "mostspent.catalogues": {"catalogue": ["machine"], "verdict": ["machine"]},
    "mostspent.judges": {"judge_catalogue": ["machine", "entries"]},
    "mostspent.trees": {
        "judge_tree": ["machine", "tree", "threshold"],
        "tree_run": ["machine", "tree", "threshold", "before", "after"],
    },
    "mostspent.bounds": {
        "enough": ["machine", "number"],
        "word_above": ["machine", "number"],
        "least_bound": ["machine", "most"],
    },
    "mostspent.twins": {"within": ["first", "second"]},
    "mostspent.powers": {
        "power_machine": ["machine"],
        "powers": ["machine"],
        "least_power": ["machine", "most"],
    },
    "mostspent.changes": {"join": ["first", "second"], "renamed": ["machine", "letters", "names"]},
    "mostspent.papers": {
        "format_table": ["table"],
        "format_recipe": ["recipe"],
        "format_entries": ["entries"],
        "parse_recipe": ["text"],
        "parse_entries": ["text"],
    },
    "mostspent.profiles": {"profile": ["machine", "length"]},
}

BENCH = {
    "put": ["self", "step"],
    "take": ["self", "number"],
    "undo": ["self"],
    "redo": ["self"],
    "machine": ["self"],
    "changes": ["self"],
    "undone": ["self"],
    "verdict": ["self"],
    "compared": ["self"],
}

# As they stand in the document.
EXAMPLES = """
>>> from mostspent.machines import applied
>>> applied(3, (3, 5))
(0, 6)

>>> from mostspent.tables import in_sequence, repeated
>>> repeated(((1, None), (None, 0)))
(('grows', None), (None, 0))

>>> from mostspent.tables import in_sequence
>>> in_sequence(((1, 0), (None, 2)), ((2, 1), (0, None)))
((2, 1), (2, None))

>>> from mostspent.recipes import word_of
>>> word_of((("letter", 0), ("often", 0), ("both", 1, 0)), 2)
[0, 0, 0]

>>> from mostspent.papers import format_entries
>>> format_entries([(("letter", 0), ((1, None), (None, 0))), (("often", 0), (("grows", None), (None, 0)))])
'letter 0 = 1,./.,0\\noften 0 = g,./.,0'
"""


class Interface(unittest.TestCase):
    def test_functions_are_defined_where_they_are_listed_and_have_the_listed_arguments(self):
        for module, functions in FUNCTIONS.items():
            for name, arguments in functions.items():
                with self.subTest(module=module, name=name):
                    function = getattr(importlib.import_module(module), name)
                    self.assertTrue(inspect.isfunction(function))
                    self.assertEqual(function.__module__, module)
                    self.assertEqual(list(inspect.signature(function).parameters), arguments)

    def test_the_class_and_its_methods_are_defined_where_they_are_listed(self):
        module = importlib.import_module("mostspent.bench")
        self.assertTrue(inspect.isclass(module.Bench))
        self.assertEqual(module.Bench.__module__, "mostspent.bench")
        self.assertEqual(list(inspect.signature(module.Bench).parameters), ["machine"])
        for name, arguments in BENCH.items():
            with self.subTest(name=name):
                function = vars(module.Bench)[name]
                self.assertTrue(inspect.isfunction(function))
                self.assertEqual(list(inspect.signature(function).parameters), arguments)

    def test_the_examples_of_the_document(self):
        test = doctest.DocTestParser().get_doctest(EXAMPLES, {}, "examples", None, None)
        result = doctest.DocTestRunner().run(test)
        self.assertEqual((result.failed, result.attempted), (0, 10))


if __name__ == "__main__":
    unittest.main()
