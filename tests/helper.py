"""What the tests of all modules share."""

import unittest

# The texts that are no names, by all that a name must not be.
NO_NAMES = ["", "abcdefghijklm", "9a", "0", "A", "aB", "a b", " a", "a ", "a-b", "a_b", "a|b", "a/b", "`", "a{", "a:"]


class Case(unittest.TestCase):
    """A test case that can ask for the very class of an error."""

    def raises(self, error, function, *arguments):
        """The call raises an error of exactly this class, not of one below or above it."""
        with self.assertRaises(error) as caught:
            function(*arguments)
        self.assertIs(type(caught.exception), error, arguments)

    def answers(self, expected, function, *arguments):
        """The call returns a value that is equal and of the same kind."""
        got = function(*arguments)
        self.assertEqual(got, expected, arguments)
        self.assertIs(type(got), type(expected), arguments)
