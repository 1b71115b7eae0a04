"""The functions that the document lists: in which file they are defined, and their arguments."""

import importlib
import inspect
import unittest

FUNCTIONS = {
    "mostspent.machines": {"fault": ["machine"], "applied": ["action", "counters"]},
    "mostspent.notation": {"format_machine": ["machine"], "parse_machine": ["text"]},
    "mostspent.costs": {"cost": ["machine", "word"], "cheapest": ["machine", "word"]},
    "mostspent.tables": {
        "best": ["values"],
        "along": ["first", "second"],
        "letter_table": ["machine", "letter"],
        "in_sequence": ["first", "second"],
        "is_stable": ["table"],
        "repeated": ["table"],
        "best_value": ["machine", "table"],
    },
    "mostspent.recipes": {"tables_of": ["machine", "recipe"], "word_of": ["recipe", "times"]},
    "mostspent.catalogues": {"catalogue": ["machine"], "verdict": ["machine"]},
    "mostspent.judges": {"judge_catalogue": ["machine", "entries"]},
    "mostspent.trees": {
        "judge_tree": ["machine", "tree", "threshold"],
        "tree_run": ["machine", "tree", "threshold", "before", "after"],
    },
    "mostspent.bounds": {
        "enough": ["machine", "number"],
        "word_above": ["machine", "number"],
        "least_bound": ["machine", "most"],
    },
    "mostspent.twins": {"within": ["first", "second"]},
    "mostspent.powers": {
        "power_machine": ["machine"],
        "powers": ["machine"],
        "least_power": ["machine", "most"],
    },
}


class Interface(unittest.TestCase):
    def test_functions_are_defined_where_they_are_listed_and_have_the_listed_arguments(self):
        for module, functions in FUNCTIONS.items():
            for name, arguments in functions.items():
                with self.subTest(module=module, name=name):
                    function = getattr(importlib.import_module(module), name)
                    self.assertTrue(inspect.isfunction(function))
                    self.assertEqual(function.__module__, module)
                    self.assertEqual(list(inspect.signature(function).parameters), arguments)


if __name__ == "__main__":
    unittest.main()
