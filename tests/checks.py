"""What several test files check in the same way."""

import unittest


class CallCase(unittest.TestCase):
    """Calls whose arguments must stay as they are, and that give the same again."""

    def ask(self, function, *arguments):
        """The result of a call, after it has been checked that asking again gives an equal one."""
        before = repr(arguments)
        result = function(*arguments)
        again = function(*arguments)
        self.assertEqual(repr(arguments), before)
        self.assertEqual(repr(result), repr(again))
        return result

    def refused(self, error, function, *arguments):
        """A call raises exactly this error, and changes nothing."""
        before = repr(arguments)
        for turn in range(2):
            with self.assertRaises(error) as caught:
                function(*arguments)
            self.assertIs(type(caught.exception), error, before)
        self.assertEqual(repr(arguments), before)

    def told(self, answer, function, *arguments):
        """A call answers exactly True or exactly False."""
        self.assertIs(self.ask(function, *arguments), answer, repr(arguments)[:200])
