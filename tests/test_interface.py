"""The interface of ../shared/DOC.md: its names and arguments, each in the file under which it is listed."""

import importlib
import inspect
import unittest

FUNCTIONS = {
    "strips": {"checked": ["strip"], "turned": ["strip"], "over": ["strip"], "part": ["strip", "first", "last"]},
    "lying": {"spans": ["strip"], "place_of": ["strip", "crease"]},
    "orders": {"need_order": ["strip", "order"], "faults": ["strip", "order"], "lies": ["strip", "order"],
               "over_place": ["strip", "order", "place"]},
    "moves": {"moves": ["strip"], "taken": ["strip", "move"]},
    "whole": {"reduced": ["strip"], "folds": ["strip"], "layered": ["strip"], "orders_of": ["strip"]},
    "notes": {"written": ["strip"], "read": ["text"]},
}
METHODS = {"here": [], "done": [], "layers": [], "take": ["move"], "back": []}


def arguments(function):
    """Return the names of the arguments, none of which may have a default value."""
    listed = inspect.signature(function).parameters.values()
    return [argument.name for argument in listed if argument.default is argument.empty], len(listed)


class TheInterface(unittest.TestCase):
    def test_functions(self):
        for file, functions in FUNCTIONS.items():
            module = importlib.import_module(f"flatstrip.{file}")
            for name, listed in functions.items():
                with self.subTest(file=file, name=name):
                    function = getattr(module, name)
                    self.assertTrue(inspect.isfunction(function))
                    self.assertEqual(function.__module__, module.__name__)
                    self.assertEqual(arguments(function), (listed, len(listed)))

    def test_the_class_fold(self):
        kind = importlib.import_module("flatstrip.folding").Fold
        self.assertTrue(inspect.isclass(kind))
        self.assertEqual(kind.__module__, "flatstrip.folding")
        self.assertEqual(arguments(kind), (["strip"], 1))
        for name, listed in METHODS.items():
            with self.subTest(name=name):
                self.assertTrue(inspect.isfunction(vars(kind)[name]))
                self.assertEqual(arguments(vars(kind)[name]), (["self"] + listed, 1 + len(listed)))


if __name__ == "__main__":
    unittest.main()
