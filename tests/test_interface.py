"""The names and arguments of the functions and classes, and the files in which they are defined."""

import importlib
import inspect
import unittest

from doorkeys import errors
from doorkeys.bench import Bench
from doorkeys.houses import House

SIGNATURES = {
    "days": {
        "at_home": ["house", "tick"],
        "find_cycle": ["house"],
        "events_between": ["house", "first", "last"],
    },
    "waits": {
        "waiting": ["house", "tick"],
        "is_open": ["house", "tick"],
        "hook": ["house", "tick"],
        "holders": ["house", "tick"],
        "wait_ticks": ["house", "person"],
        "open_ticks": ["house"],
        "count_waits": ["house", "person", "first", "last"],
        "first_wait": ["house"],
        "longest_wait": ["house"],
        "next_entry": ["house", "person", "tick"],
    },
    "planning": {
        "least_keys": ["house"],
        "fewest_careful": ["house"],
        "plan_reminders": ["house", "limit"],
        "idle_reminders": ["house"],
    },
    "comparison": {
        "first_difference": ["house", "other"],
        "first_error": ["house", "log"],
    },
    "encoding": {
        "encode": ["house"],
        "decode": ["code"],
    },
    "bench": {
        "format_session": ["house", "operations"],
        "parse_session": ["text"],
    },
}
CLASSES = {
    ("houses", "House"): {
        "__init__": ["self", "tables", "keys", "careful", "reminders"],
        "persons": None,
        "period": None,
        "text": None,
        "parse": ["text"],
        "wants_home": ["self", "person", "tick"],
    },
    ("watching", "Watcher"): {
        "__init__": ["self", "house", "most"],
        "see": ["self", "tick", "persons"],
        "see_from": ["self", "first", "*groups"],
        "candidates": None,
        "history": None,
        "possible": ["self", "tick"],
        "best_tick": ["self", "limit"],
    },
    ("bench", "Bench"): {
        "__init__": ["self", "house"],
        "set_keys": ["self", "keys"],
        "set_table": ["self", "person", "table"],
        "set_careful": ["self", "*persons"],
        "set_reminders": ["self", "*reminders"],
        "undo": ["self"],
        "redo": ["self"],
        "text": None,
        "operations": None,
        "save": ["self", "name"],
        "restore": ["self", "name"],
        "batch": ["self", "operations"],
        "replay": ["house", "operations"],
    },
}
# Each error and its attributes.
ERRORS = {
    "HouseError": [], "InvalidHouse": ["part", "index"], "InvalidTick": [], "UnknownPerson": [], "InvalidLimit": [],
    "DifferentHouses": [], "InvalidWaiting": [], "Contradiction": [], "TextFault": ["line"], "InvalidCode": ["place"],
    "InvalidName": [], "UnknownName": [], "InvalidOperation": ["place"],
}


def arguments(function):
    """Return the names of the arguments of a function, a star in front of one that takes several."""
    found = inspect.signature(function).parameters.values()
    return [("*" if item.kind == item.VAR_POSITIONAL else "") + item.name for item in found]


class InterfaceTest(unittest.TestCase):
    def test_functions(self):
        for file, functions in SIGNATURES.items():
            module = importlib.import_module(f"doorkeys.{file}")
            for name, expected in functions.items():
                function = getattr(module, name)
                self.assertEqual(function.__module__, f"doorkeys.{file}", name)
                self.assertEqual(arguments(function), expected, name)

    def test_classes(self):
        for (file, class_name), members in CLASSES.items():
            made = getattr(importlib.import_module(f"doorkeys.{file}"), class_name)
            self.assertEqual(made.__module__, f"doorkeys.{file}")
            for name, expected in members.items():
                # Each method stands in the class itself, and is not inherited.
                self.assertIn(name, vars(made))
                if expected is None:
                    self.assertIsInstance(vars(made)[name], property)
                else:
                    self.assertEqual(arguments(getattr(made, name)), expected, name)

    def test_class_methods(self):
        for name, made in (("parse", House), ("replay", Bench)):
            self.assertIsInstance(vars(made)[name], classmethod)

    def test_errors(self):
        for name, attributes in ERRORS.items():
            made = getattr(errors, name)
            self.assertEqual(made.__module__, "doorkeys.errors")
            values = list(range(len(attributes)))
            error = made(*values)
            self.assertEqual([getattr(error, attribute) for attribute in attributes], values, name)

    def test_defaults(self):
        found = inspect.signature(House).parameters
        self.assertEqual((found["careful"].default, found["reminders"].default), ((), ()))


if __name__ == "__main__":
    unittest.main()
