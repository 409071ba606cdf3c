"""Where there is no filling: [2], [40], [41], [42], [90]."""

import inspect
import unittest
from itertools import combinations

from blankcells.conflicts import clashing, clearing, clearings
from blankcells.errors import NoNumber, NoRules, NoTable
from blankcells.fillings import verdict
from tests.checks import CallCase
from tests.samples import ANY_VALUES, SOME_TABLES, small_rule_tuples
from tests.trying import Walk, all_full, blank_places, enough_values, rules_hold, small_tables

RULES = (((0,), 1), ((1,), 2))
TABLE = (3, ((1, 2, None), (1, None, 3), (None, 4, 5)))
CLASH = (2, ((1, 5), (1, 6), (2, 5)))
CLASH_RULES = (((0,), 1),)

# None of these is an integer from 0 to 2.
WRONG_MOST = [
    -1, 3, 4, 40, -2, 9999999999999, -9999999999999, True, False, None, "", "1", (), (1,), [], [1], {}, {1: 1},
    NoNumber(),
]


def clearings_list(table, rules, most):
    """All that the generator yields."""
    return list(clearings(table, rules, most))


def first_clearing(table, rules, most):
    """The first that the generator yields, None without one."""
    return next(clearings(table, rules, most), None)


def clashing_list(table, rules):
    """All that the generator yields."""
    return list(clashing(table, rules))


def first_clash(table, rules):
    """The first that the generator yields, None without one."""
    return next(clashing(table, rules), None)


def can_be_filled(table, rules):
    """Whether there is a filling, by trying all where there are few blanks."""
    if len(blank_places(table)) <= 4:
        return any(rules_hold(full[1], rules) for full in all_full(table, enough_values(table)))
    return verdict(table, rules)[0] == "filling"


def without(table, places):
    """The table with blanks at these places."""
    many, rows = table
    return (many, tuple(
        tuple(None if (row, column) in places else cell for column, cell in enumerate(cells))
        for row, cells in enumerate(rows)
    ))


def places_in_order(table, most):
    """All ascending tuples of at most that many places of values, in order."""
    many, rows = table
    places = [(row, column) for row in range(len(rows)) for column in range(many) if rows[row][column] is not None]
    return [chosen for size in range(most + 1) for chosen in combinations(places, size)]


def one_less(things):
    """The tuples without any one of the things."""
    return [things[:at] + things[at + 1:] for at in range(len(things))]


def clearings_by_trying(table, rules, most):
    """The clearings, word for word by their definition."""
    fills = {chosen: can_be_filled(without(table, chosen), rules) for chosen in places_in_order(table, most)}
    return [chosen for chosen in fills if fills[chosen] and not any(fills[fewer] for fewer in one_less(chosen))]


def clearing_by_trying(table, rules, most):
    """The clearing, word for word by its definition."""
    for chosen in places_in_order(table, most):
        if can_be_filled(without(table, chosen), rules):
            return chosen
    return None


def clashing_by_trying(table, rules):
    """The clashing sets, word for word by their definition."""
    many, rows = table
    numbers = range(len(rows))
    fills = {
        chosen: can_be_filled((many, tuple(rows[number] for number in chosen)), rules)
        for size in range(len(rows) + 1) for chosen in combinations(numbers, size)
    }
    return [chosen for chosen in fills if not fills[chosen] and all(fills[fewer] for fewer in one_less(chosen))]


class TryingTest(CallCase):
    """All three functions, by trying."""

    def compare(self, table, rules):
        about = (table, rules)
        self.assertEqual(clashing_list(table, rules), clashing_by_trying(table, rules), about)
        for most in range(3):
            expected = clearings_by_trying(table, rules, most)
            self.assertEqual(clearings_list(table, rules, most), expected, about)
            self.assertEqual(clearing(table, rules, most), clearing_by_trying(table, rules, most), about)
        first = clearing(table, rules, 2)
        return None if first is None else len(first)

    def test_one_column(self):
        for amount in range(5):
            for table in small_tables(1, amount, (None, 0, 1)):
                for rules in [(), (((), 0),), (((), 0),) * 3]:
                    self.compare(table, rules)

    def test_two_columns(self):
        for number, table in enumerate(small_tables(2, 2, (None, 0, 1))):
            for rules in small_rule_tuples(2)[number % 3::3]:
                self.compare(table, rules)

    def test_three_rows(self):
        for table in list(small_tables(2, 3, (None, 0, 1)))[::9]:
            self.compare(table, (((0,), 1), ((1,), 0)))
            self.compare(table, (((), 1), ((1,), 0)))

    def test_three_columns(self):
        walk = Walk(51)
        sizes = {self.compare(walk.table(3, 3, range(1, 4), walk.number(4)), walk.rules(3, 4)) for turn in range(40)}
        self.assertEqual(sizes, {0, 1, 2, None})

    def test_larger_tables(self):
        walk = Walk(52)
        for turn in range(12):
            many = 2 + walk.number(3)
            table = walk.table(many, 4 + walk.number(5), range(2 + walk.number(5)), 5 + walk.number(9))
            self.compare(table, walk.rules(many, 3))


class ClearingTest(CallCase):
    def test_one_place(self):
        for most in (1, 2):
            self.assertEqual(self.ask(clearing, CLASH, CLASH_RULES, most), ((0, 0),))
        self.assertEqual(self.ask(clearing, (2, ((1, 5), (2, 6), (2, 7))), CLASH_RULES, 1), ((1, 0),))
        self.assertEqual(self.ask(clearing, (1, ((3,), (3,), (4,))), (((), 0),), 1), ((2, 0),))

    def test_already_filled(self):
        for table, rules in ((TABLE, RULES), (CLASH, ()), ((2, ()), CLASH_RULES), ((2, ((None, None),)), ())):
            for most in range(3):
                self.assertEqual(self.ask(clearing, table, rules, most), ())

    def test_two_places(self):
        table = (1, ((3,), (4,), (5,)))
        self.assertEqual(self.ask(clearing, table, (((), 0),), 2), ((0, 0), (1, 0)))
        table = (2, ((1, 5), (1, 6), (2, 7), (2, 8)))
        self.assertEqual(self.ask(clearing, table, CLASH_RULES, 2), ((0, 0), (2, 0)))

    def test_more_than_most(self):
        self.assertIsNone(self.ask(clearing, CLASH, CLASH_RULES, 0))
        self.assertIsNone(self.ask(clearing, (1, ((3,), (4,), (5,))), (((), 0),), 1))
        self.assertIsNone(self.ask(clearing, (1, ((3,), (4,), (5,))), (((), 0),), 0))
        self.assertIsNone(self.ask(clearing, (1, ((3,), (4,), (5,), (6,))), (((), 0),), 2))
        self.assertIsNone(self.ask(clearing, (5, tuple((row,) * 5 for row in range(8))), (((), 0),), 2))

    def test_a_later_place_comes_behind_fewer_places(self):
        # The places of row 0 are before that of row 2, but only the latter is enough alone.
        table = (2, ((1, 5), (1, 5), (1, 6)))
        self.assertEqual(self.ask(clearing, table, CLASH_RULES, 2), ((2, 0),))
        table = (1, ((7,), (7,), (7,), (8,)))
        self.assertEqual(self.ask(clearing, table, (((), 0),), 2), ((3, 0),))

    def test_argument_names(self):
        self.assertEqual(clearing(most=1, rules=CLASH_RULES, table=CLASH), ((0, 0),))


class ClearingsTest(CallCase):
    def test_the_example_of_the_document(self):
        expected = [((0, 0),), ((0, 1),), ((1, 0),), ((1, 1),)]
        self.assertEqual(self.ask(clearings_list, CLASH, CLASH_RULES, 2), expected)
        self.assertEqual(self.ask(clearings_list, CLASH, CLASH_RULES, 1), expected)
        self.assertEqual(self.ask(clearings_list, CLASH, CLASH_RULES, 0), [])

    def test_already_filled(self):
        for table, rules in ((TABLE, RULES), (CLASH, ()), ((2, ()), CLASH_RULES), ((2, ((None, None),)), ())):
            for most in range(3):
                self.assertEqual(self.ask(clearings_list, table, rules, most), [()])

    def test_one_and_two_places(self):
        table = (1, ((3,), (4,), (3,)))
        self.assertEqual(self.ask(clearings_list, table, (((), 0),), 2), [((1, 0),), ((0, 0), (2, 0))])
        self.assertEqual(self.ask(clearings_list, table, (((), 0),), 1), [((1, 0),)])
        table = (1, ((3,), (4,), (5,)))
        expected = [((0, 0), (1, 0)), ((0, 0), (2, 0)), ((1, 0), (2, 0))]
        self.assertEqual(self.ask(clearings_list, table, (((), 0),), 2), expected)
        self.assertEqual(self.ask(clearings_list, table, (((), 0),), 1), [])

    def test_blanks_are_not_among_the_places(self):
        table = (2, ((1, 5), (None, None), (1, 6)))
        self.assertEqual(self.ask(clearings_list, table, (((), 1),), 2), [((0, 1),), ((2, 1),)])

    def test_the_largest_table(self):
        table = (5, ((0, 1, 2, 3, 4),) * 7 + ((0, 1, 2, 3, 5),))
        found = self.ask(clearings_list, table, (((0, 1, 2, 3), 4),), 2)
        self.assertEqual(found, [((7, column),) for column in range(5)])

    def test_a_generator(self):
        self.assertTrue(inspect.isgenerator(clearings(CLASH, CLASH_RULES, 2)))
        first = clearings(CLASH, CLASH_RULES, 2)
        second = clearings(CLASH, CLASH_RULES, 2)
        self.assertEqual([next(first), next(first), next(second)], [((0, 0),), ((0, 1),), ((0, 0),)])
        self.assertEqual((len(list(first)), len(list(second))), (2, 3))

    def test_argument_names(self):
        self.assertEqual(list(clearings(most=2, rules=RULES, table=TABLE)), [()])


class ClashingTest(CallCase):
    def test_the_example_of_the_document(self):
        self.assertEqual(self.ask(clashing_list, CLASH, CLASH_RULES), [(0, 1)])

    def test_in_order(self):
        table = (2, ((1, 5), (2, 7), (1, 6), (2, 8), (1, 5)))
        self.assertEqual(self.ask(clashing_list, table, CLASH_RULES), [(0, 2), (1, 3), (2, 4)])
        table = (1, ((0,), (1,), (None,), (2,)))
        self.assertEqual(self.ask(clashing_list, table, (((), 0),)), [(0, 1), (0, 3), (1, 3)])

    def test_smaller_sets_first(self):
        # Rows 0, 1 and 2 clash only all together, rows 3 and 4 at once.
        table = (3, ((1, None, 3), (1, 2, None), (4, 2, 5), (8, 9, 0), (8, 7, 0)))
        self.assertEqual(self.ask(clashing_list, table, RULES), [(3, 4), (0, 1, 2)])

    def test_all_rows_are_needed(self):
        chain = (((0,), 1), ((1,), 2), ((2,), 3), ((3,), 4))
        table = (5, ((1, None, 3, None, None), (1, 2, None, 8, None), (9, 2, None, None, 6), (7, None, 3, None, 5)))
        self.assertEqual(self.ask(clashing_list, table, chain), [(0, 1, 2, 3)])

    def test_none(self):
        for table, rules in ((TABLE, RULES), (CLASH, ()), ((2, ()), CLASH_RULES), ((2, ((None, None),) * 8), ())):
            self.assertEqual(self.ask(clashing_list, table, rules), [])

    def test_the_largest_table(self):
        table = (5, tuple((row,) * 5 for row in range(8)))
        self.assertEqual(self.ask(clashing_list, table, (((), 4),) * 8), list(combinations(range(8), 2)))

    def test_a_generator(self):
        self.assertTrue(inspect.isgenerator(clashing(CLASH, CLASH_RULES)))
        table = (1, ((0,), (1,), (2,)))
        first = clashing(table, (((), 0),))
        second = clashing(table, (((), 0),))
        self.assertEqual([next(first), next(first), next(second)], [(0, 1), (0, 2), (0, 1)])
        self.assertEqual((list(first), list(second)), ([(1, 2)], [(0, 2), (1, 2)]))

    def test_argument_names(self):
        self.assertEqual(list(clashing(rules=CLASH_RULES, table=CLASH)), [(0, 1)])


class WrongArgumentsTest(CallCase):
    def test_tables_then_rules(self):
        self.refuses_tables_then_rules(first_clash, ())
        for function in (clearing, first_clearing):
            self.refuses_tables_then_rules(function, (1,), (3,), (None,))

    def test_no_number(self):
        others = [value for value in ANY_VALUES if value is not None and value not in (0, 1)]
        for most in WRONG_MOST + others + SOME_TABLES:
            for table, rules in ((CLASH, CLASH_RULES), (TABLE, RULES), ((2, ()), ())):
                self.refused(NoNumber, clearing, table, rules, most)
                self.refused(NoNumber, first_clearing, table, rules, most)

    def test_exceptions_in_their_order(self):
        for function in (clearing, first_clearing):
            self.refused(NoTable, function, (2, list(CLASH[1])), (((0,), 2),), 3)
            self.refused(NoRules, function, CLASH, (((0,), 2),), 3)
            self.refused(NoNumber, function, CLASH, CLASH_RULES, 3)
        self.refused(NoTable, first_clash, (2, list(CLASH[1])), (((0,), 2),))
        self.refused(NoRules, first_clash, CLASH, (((0,), 2),))


class WhatHoldsTest(CallCase):
    """[90], for clearings."""

    def test_a_table_that_can_be_filled_has_an_empty_clearing(self):
        walk = Walk(53)
        for turn in range(150):
            table = walk.table(3, 1 + walk.number(6), range(4), 9)
            rules = walk.rules(3)
            filled = verdict(table, rules)[0] == "filling"
            self.assertEqual(clearings_list(table, rules, 0), [()] if filled else [])
            self.assertEqual(clashing_list(table, rules) == [], filled)
            if filled:
                self.assertEqual(clearings_list(table, rules, 2), [()])


if __name__ == "__main__":
    unittest.main()
