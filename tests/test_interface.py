"""The names and arguments of the functions and classes, and the files in which they are defined."""

import importlib
import inspect
import unittest

SIGNATURES = {
    "days": {
        "at_home": ["house", "tick"],
        "find_cycle": ["house"],
        "events_between": ["house", "first", "last"],
    },
    "waits": {
        "waiting": ["house", "tick"],
        "is_open": ["house", "tick"],
        "hook": ["house", "tick"],
        "holders": ["house", "tick"],
        "wait_ticks": ["house", "person"],
        "open_ticks": ["house"],
        "count_waits": ["house", "person", "first", "last"],
        "first_wait": ["house"],
        "longest_wait": ["house"],
        "next_entry": ["house", "person", "tick"],
    },
    "planning": {
        "least_keys": ["house"],
        "fewest_careful": ["house"],
        "plan_reminders": ["house", "limit"],
        "idle_reminders": ["house"],
    },
    "comparison": {
        "first_difference": ["house", "other"],
        "first_error": ["house", "log"],
    },
}
CLASSES = {
    ("houses", "House"): {
        "__init__": ["self", "tables", "keys", "careful", "reminders"],
        "persons": None,
        "period": None,
        "text": None,
        "parse": ["text"],
        "wants_home": ["self", "person", "tick"],
    },
}


def arguments(function):
    """Return the names of the arguments of a function."""
    return list(inspect.signature(function).parameters)


class InterfaceTest(unittest.TestCase):
    def test_functions(self):
        for file, functions in SIGNATURES.items():
            module = importlib.import_module(f"doorkeys.{file}")
            for name, expected in functions.items():
                function = getattr(module, name)
                self.assertEqual(function.__module__, f"doorkeys.{file}", name)
                self.assertEqual(arguments(function), expected, name)

    def test_classes(self):
        for (file, class_name), members in CLASSES.items():
            made = getattr(importlib.import_module(f"doorkeys.{file}"), class_name)
            self.assertEqual(made.__module__, f"doorkeys.{file}")
            for name, expected in members.items():
                # Each method stands in the class itself.
                self.assertIn(name, vars(made))
                if expected is None:
                    self.assertIsInstance(vars(made)[name], property)
                else:
                    self.assertEqual(arguments(getattr(made, name)), expected, name)


if __name__ == "__main__":
    unittest.main()
