"""[2]: the classes of the errors."""

import unittest

from corebank import errors

NAMES = ["BadValue", "BadDay", "Missing", "Refused", "Full", "NotAllowed", "Damaged"]


class ErrorsTest(unittest.TestCase):

    def test_bank_error_is_a_value_error(self):
        self.assertTrue(issubclass(errors.BankError, ValueError))
        self.assertIsNot(errors.BankError, ValueError)

    def test_each_is_below_bank_error(self):
        for name in NAMES:
            found = getattr(errors, name)
            self.assertTrue(issubclass(found, errors.BankError), name)
            self.assertIsNot(found, errors.BankError, name)
            self.assertEqual(found.__name__, name)

    def test_none_is_below_another(self):
        for name in NAMES:
            for other in NAMES:
                if name != other:
                    self.assertFalse(issubclass(getattr(errors, name), getattr(errors, other)), (name, other))

    def test_each_is_raised_with_a_text(self):
        for name in NAMES:
            with self.assertRaises(errors.BankError) as caught:
                raise getattr(errors, name)("why")
            self.assertEqual(str(caught.exception), "why")


if __name__ == "__main__":
    unittest.main()
