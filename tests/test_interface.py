"""The interface: each name stands, defined, in its file, with the arguments that are told."""

import importlib
import inspect
import unittest

FUNCTIONS = {
    "amounts": {
        "format_amount": ["amount", "digits"],
        "parse_amount": ["text", "digits"],
        "divide_rounded": ["over", "under", "way"],
        "allocate": ["amount", "weights"],
        "split_equally": ["amount", "parts"],
        "is_amount": ["number"],
    },
    "days": {
        "is_day": ["number"],
        "date_of": ["day"],
        "day_of": ["year", "month", "in_month"],
        "weekday": ["day"],
        "is_working": ["day", "holidays"],
        "adjust": ["day", "holidays", "how"],
        "due_day": ["start", "months", "number"],
    },
}
CLASSES = {
    "errors": ["BankError", "BadValue", "BadDay", "Missing", "Refused", "Full", "NotAllowed", "Damaged"],
}
VALUES = {
    "amounts": {"LIMIT": 1000000000, "GREAT": 1000000000000},
    "days": {"LAST_DAY": 36524},
}


def module(name):
    return importlib.import_module("corebank." + name)


class InterfaceTest(unittest.TestCase):

    def test_functions(self):
        for name, functions in FUNCTIONS.items():
            for function, arguments in functions.items():
                found = getattr(module(name), function)
                self.assertTrue(inspect.isfunction(found), function)
                self.assertEqual(found.__module__, "corebank." + name, function)
                self.assertEqual(list(inspect.signature(found).parameters), arguments, function)

    def test_classes(self):
        for name, classes in CLASSES.items():
            for word in classes:
                found = getattr(module(name), word)
                self.assertTrue(inspect.isclass(found), word)
                self.assertEqual(found.__module__, "corebank." + name, word)

    def test_values(self):
        for name, values in VALUES.items():
            for word, value in values.items():
                found = getattr(module(name), word)
                self.assertEqual(found, value, word)
                self.assertIs(type(found), type(value), word)


if __name__ == "__main__":
    unittest.main()
