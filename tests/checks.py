"""What several test files check in the same way."""

import unittest

from blankcells.errors import NoRules, NoTable
from tests.samples import ANY_VALUES, SOME_TABLES, WRONG_RULES, WRONG_TABLES


class CallCase(unittest.TestCase):
    """Calls whose arguments must stay as they are, and that give the same again."""

    def ask(self, function, *arguments):
        """The result of a call, after it has been checked that asking again gives an equal one."""
        before = repr(arguments)
        result = function(*arguments)
        again = function(*arguments)
        self.assertEqual(repr(arguments), before)
        self.assertEqual(repr(result), repr(again))
        return result

    def refused(self, error, function, *arguments):
        """A call raises exactly this error, and changes nothing."""
        before = repr(arguments)
        for turn in range(2):
            with self.assertRaises(error) as caught:
                function(*arguments)
            self.assertIs(type(caught.exception), error, before)
        self.assertEqual(repr(arguments), before)

    def told(self, answer, function, *arguments):
        """A call answers exactly True or exactly False."""
        self.assertIs(self.ask(function, *arguments), answer, repr(arguments)[:200])

    def refuses_tables_then_rules(self, function, *rests):
        """A call raises NoTable, then NoRules, whatever stands behind the table and the rules."""
        right = (2, ((1, 2), (None, None)))
        clash = (2, ((1, 2), (1, 3), (None, 2)))
        for rest in rests:
            for table in WRONG_TABLES + ANY_VALUES:
                self.refused(NoTable, function, table, (((0,), 1),), *rest)
                self.refused(NoTable, function, table, None, *rest)
            for table in (right, clash, (2, ())):
                for rules in ANY_VALUES + SOME_TABLES + [[((0,), 1)], (((0,), 1),) * 9, (((0,), 2),), ((0,), 1)]:
                    if rules != ():
                        self.refused(NoRules, function, table, rules, *rest)
            for many, rule in WRONG_RULES:
                self.refused(NoRules, function, (many, ((None,) * many, (1,) * many)), (rule,), *rest)
                self.refused(NoRules, function, (many, ((1,) * many, (2,) * many)), (((), 0), rule), *rest)
