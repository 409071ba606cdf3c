"""What every filling has: [2], [35], [36], [37], [70]."""

import unittest
from itertools import combinations, product

from blankcells.errors import NoColumns, NoFilling, NoParts, NoRow, NoRules, NoTable
from blankcells.fillings import general, shows_verdict
from blankcells.splits import rejoined
from blankcells.sure import lacking, shows_lacking, sure_rejoined, sure_rows
from blankcells.tables import is_table
from tests.checks import CallCase
from tests.samples import ANY_VALUES, SOME_TABLES, WRONG_PARTS, WRONG_TABLES, all_parts, small_rule_tuples
from tests.trying import (
    Walk, all_full, blank_places, enough_values, rejoined_by_trying, rules_hold, small_tables,
)

RULES = (((0,), 1), ((1,), 2))
TABLE = (3, ((1, 2, None), (1, None, 3), (None, 4, 5)))
CLASH = (2, ((1, 5), (1, 6), (2, 5)))
CLASH_RULES = (((0,), 1),)

# None of these is a set of columns of three columns.
WRONG_COLUMNS = [
    (1, 0), (0, 0), (0, 1, 1), (2, 1), (0, 2, 1), (3,), (0, 3), (-1,), (-1, 0), (0, 1, 2, 3), (True,), (False,),
    (0, True), (False, 1), [0], [], [0, 1], {}, {0: 1}, "", "0", "01", 0, 1, None, True, ((0,),), (None,), (0, None),
    ("0",), (0, "1"), ((), 0), (9999999999999,), ([0],), (0, [1]), (NoColumns(),),
]

# None of these is a tuple with a value for each of two columns.
WRONG_VALUES = [
    (), (1,), (1, 2, 3), (1, None), (None, 2), (None, None), (1, -1), (-1, 2), (10000, 2), (1, 10000), (True, 2),
    (1, True), (1, False), [1, 2], [], "12", {1: 2}, {}, "", 1, 0, None, True, ((1, 2),), (1, (2,)), ("1", 2),
    (1, "2"), (1, [2]), (1, 9999999999999), (1, NoRow()),
]


def column_sets(many):
    """All sets of many columns, also the empty one."""
    return [columns for size in range(many + 1) for columns in combinations(range(many), size)]


def pieces(rows, columns):
    """What rows have in these columns, as a set of Python's."""
    return {tuple(row[column] for column in columns) for row in rows}


def in_all(sets):
    """What is in each of some sets of Python's, ascending."""
    return tuple(sorted(set.intersection(*sets)))


class TryingTest(CallCase):
    """All four functions, by all fillings."""

    def compare(self, table, rules, many_parts):
        fulls = all_full(table, enough_values(table))
        found = [full for full in fulls if rules_hold(full[1], rules)]
        if not found:
            self.compare_without_filling(table, rules, many_parts)
            return
        for columns in column_sets(table[0]):
            sure = in_all([pieces(full[1], columns) for full in found])
            self.assertEqual(sure_rows(table, rules, columns), sure, (table, rules, columns))
            for values in product(enough_values(table)[:4], repeat=len(columns)):
                self.compare_lacking(table, rules, columns, values, values in sure)
            self.compare_shown(table, rules, columns, fulls)
        for parts in many_parts:
            expected = in_all([set(rejoined_by_trying(full, parts)) for full in found])
            self.assertEqual(sure_rejoined(table, rules, parts), expected, (table, rules, parts))

    def compare_lacking(self, table, rules, columns, values, sure):
        about = (table, rules, columns, values)
        answer = lacking(table, rules, columns, values)
        if sure:
            self.assertIsNone(answer, about)
        else:
            self.assertTrue(is_table(answer), about)
            self.assertIs(shows_verdict(table, rules, ("filling", answer)), True, about)
            self.assertTrue(rules_hold(answer[1], rules), about)
            self.assertNotIn(values, pieces(answer[1], columns), about)
        self.assertIs(shows_lacking(table, rules, columns, values, answer), True, about)
        self.assertIs(shows_lacking(table, rules, columns, values, None), sure, about)

    def compare_shown(self, table, rules, columns, fulls):
        for full in fulls[::1 + len(fulls) // 8]:
            for values in [(0,) * len(columns), *sorted(pieces(full[1], columns))]:
                expected = rules_hold(full[1], rules) and values not in pieces(full[1], columns)
                self.assertIs(shows_lacking(table, rules, columns, values, full), expected, (table, columns, values))

    def compare_without_filling(self, table, rules, many_parts):
        for columns in column_sets(table[0]):
            values = (0,) * len(columns)
            self.assertRaises(NoFilling, sure_rows, table, rules, columns)
            self.assertRaises(NoFilling, lacking, table, rules, columns, values)
            self.assertRaises(NoFilling, shows_lacking, table, rules, columns, values, None)
        for parts in many_parts:
            self.assertRaises(NoFilling, sure_rejoined, table, rules, parts)

    def test_one_column(self):
        for amount in range(4):
            for table in small_tables(1, amount, (None, 0, 1)):
                for rules in small_rule_tuples(1):
                    self.compare(table, rules, all_parts(1, 2))

    def test_two_columns(self):
        for table in small_tables(2, 2, (None, 0, 1)):
            if len(blank_places(table)) <= 3:
                for rules in small_rule_tuples(2)[::3]:
                    self.compare(table, rules, all_parts(2, 2))

    def test_three_columns(self):
        walk = Walk(41)
        choice = all_parts(3, 3)
        for turn in range(60):
            table = walk.table(3, 1 + walk.number(4), range(1 + walk.number(3)), 3)
            self.compare(table, walk.rules(3, 4), [walk.pick(choice) for number in range(6)])

    def test_larger_tables(self):
        walk = Walk(42)
        for turn in range(25):
            many = 2 + walk.number(4)
            table = walk.table(many, 3 + walk.number(6), range(3 + walk.number(5)), 2)
            self.compare(table, walk.rules(many, 2), [walk.parts(many) for number in range(3)])


class SureRowsTest(CallCase):
    def test_the_example_of_the_document(self):
        self.assertEqual(self.ask(sure_rows, TABLE, RULES, (1, 2)), ((2, 3), (4, 5)))

    def test_sets_of_columns(self):
        self.assertEqual(self.ask(sure_rows, TABLE, RULES, (0,)), ((1,),))
        self.assertEqual(self.ask(sure_rows, TABLE, RULES, (0, 1)), ((1, 2),))
        self.assertEqual(self.ask(sure_rows, TABLE, RULES, (0, 1, 2)), ((1, 2, 3),))
        self.assertEqual(self.ask(sure_rows, TABLE, (), (1, 2)), ((4, 5),))
        self.assertEqual(self.ask(sure_rows, TABLE, (), (0, 1, 2)), ())

    def test_no_columns(self):
        self.assertEqual(self.ask(sure_rows, TABLE, RULES, ()), ((),))
        self.assertEqual(self.ask(sure_rows, (2, ((None, None),)), (), ()), ((),))
        self.assertEqual(self.ask(sure_rows, (2, ()), (), ()), ())

    def test_without_rows(self):
        for many in range(1, 6):
            for columns in column_sets(many):
                self.assertEqual(self.ask(sure_rows, (many, ()), (((), 0),), columns), ())

    def test_once_and_ascending(self):
        table = (2, ((3, 1), (1, 2), (3, 1), (1, 0), (9999, 64), (8, None)))
        self.assertEqual(self.ask(sure_rows, table, (), (0, 1)), ((1, 0), (1, 2), (3, 1), (9999, 64)))
        self.assertEqual(self.ask(sure_rows, table, (), (0,)), ((1,), (3,), (8,), (9999,)))
        self.assertEqual(self.ask(sure_rows, table, (), (1,)), ((0,), (1,), (2,), (64,)))

    def test_values_that_are_written_by_rules(self):
        table = (2, ((None, None), (0, 7), (None, 7)))
        self.assertEqual(self.ask(sure_rows, table, (((1,), 0),), (0, 1)), ((0, 7),))
        self.assertEqual(self.ask(sure_rows, table, (((), 0), ((0,), 1)), (0, 1)), ((0, 7),))
        # Joined blanks without a value are in no tuple.
        self.assertEqual(self.ask(sure_rows, (1, ((None,), (None,))), (((), 0),), (0,)), ())

    def test_the_largest_table(self):
        table = (5, tuple((row, 9999 - row, None, 0, row % 2) for row in range(8)))
        self.assertEqual(self.ask(sure_rows, table, (), (0, 4)), tuple((row, row % 2) for row in range(8)))
        self.assertEqual(self.ask(sure_rows, table, (), (3, 4)), ((0, 0), (0, 1)))
        self.assertEqual(self.ask(sure_rows, table, (), (0, 1, 2, 3, 4)), ())

    def test_wrong_arguments(self):
        self.refuses_tables_then_rules(sure_rows, ((0,),), ((1, 0),), (None,))

    def test_argument_names(self):
        self.assertEqual(sure_rows(columns=(0,), rules=RULES, table=TABLE), ((1,),))


class LackingTest(CallCase):
    def check(self, table, rules, columns, values):
        """What is returned is a filling without the values."""
        answer = self.ask(lacking, table, rules, columns, values)
        self.assertTrue(shows_verdict(table, rules, ("filling", answer)))
        self.assertNotIn(values, pieces(answer[1], columns))
        self.told(True, shows_lacking, table, rules, columns, values, answer)
        self.told(False, shows_lacking, table, rules, columns, values, None)

    def test_sure(self):
        for values in ((2, 3), (4, 5)):
            self.assertIsNone(self.ask(lacking, TABLE, RULES, (1, 2), values))
            self.told(True, shows_lacking, TABLE, RULES, (1, 2), values, None)
            self.told(False, shows_lacking, TABLE, RULES, (1, 2), values, general(TABLE, RULES))

    def test_not_sure(self):
        self.check(TABLE, RULES, (1, 2), (2, 5))
        self.check(TABLE, RULES, (0, 1), (1, 4))
        self.check(TABLE, (), (1, 2), (2, 3))
        self.check(TABLE, (), (0, 1, 2), (1, 2, 3))

    def test_the_general_filling_may_have_the_values(self):
        for value in range(12):
            self.check(TABLE, RULES, (0, 1), (value, 4))
            self.check(TABLE, (), (0, 2), (value, 5))
            self.check((1, ((None,),) * 8), (), (0,), (value,))
        self.assertIn((0, 4), pieces(general(TABLE, RULES)[1], (0, 1)))

    def test_the_largest_table_of_blanks(self):
        table = (5, ((None,) * 5,) * 8)
        for first in (0, 1, 35, 39, 40, 44, 9999):
            values = tuple(min(9999, first + number) for number in range(5))
            for rules in ((), (((), 0), ((0,), 1)), (((), 4),) * 8):
                self.check(table, rules, (0, 1, 2, 3, 4), values)
                self.check(table, rules, (2,), values[:1])
                self.check(table, rules, (0, 4), (values[0], values[0]))

    def test_no_columns(self):
        self.assertIsNone(self.ask(lacking, TABLE, RULES, (), ()))
        self.assertEqual(self.ask(lacking, (3, ()), RULES, (), ()), (3, ()))
        self.told(True, shows_lacking, (3, ()), RULES, (), (), (3, ()))
        self.told(False, shows_lacking, (3, ()), RULES, (), (), None)
        self.told(False, shows_lacking, TABLE, RULES, (), (), general(TABLE, RULES))

    def test_without_rows(self):
        self.assertEqual(self.ask(lacking, (2, ()), (), (0, 1), (0, 9999)), (2, ()))
        self.told(True, shows_lacking, (2, ()), (), (0, 1), (0, 9999), (2, ()))
        self.told(False, shows_lacking, (2, ()), (), (0, 1), (0, 9999), (1, ()))

    def test_wrong_arguments(self):
        self.refuses_tables_then_rules(lacking, ((0,), (1,)), ((1, 0), ()), (None, None))

    def test_argument_names(self):
        self.assertIsNone(lacking(values=(4,), columns=(1,), rules=RULES, table=TABLE))


class ShowsLackingTest(CallCase):
    def test_any_filling(self):
        for value in (0, 2, 3, 77, 9999):
            full = (3, ((1, 2, 3), (1, 2, 3), (value, 4, 5)))
            self.told(True, shows_lacking, TABLE, RULES, (0,), (8,), full)
            self.told(False, shows_lacking, TABLE, RULES, (0,), (value,), full)
            self.told(False, shows_lacking, TABLE, RULES, (0, 2), (value, 5), full)
            self.told(True, shows_lacking, TABLE, RULES, (0, 2), (value, 3), full)

    def test_what_is_no_filling(self):
        right = ((1, 2, 3), (1, 2, 3), (8, 4, 5))
        for thing in (
            TABLE, (3, right[:2]), (3, right + right[:1]), (3, ()), (3, right[1:] + right[:1]), (2, ((1, 2),) * 3),
            (3, ((1, 2, 3), (1, 2, 3), (1, 4, 5))), (3, ((1, 2, 3), (1, 2, 3), (8, 4, 6))),
            (3, ((1, 2, 3), (1, 2, 3), (None, 4, 5))), (3, ((1, 2, 3), (1, 2, 3), (10000, 4, 5))),
            (3, ((1, 2, 3), (1, 2, 3), (False, 4, 5))), (3, ((True, 2, 3), (1, 2, 3), (8, 4, 5))),
            (3, ((1, 2, 3), (1, 2, 3), [8, 4, 5])), (3, list(right)), [3, right], (3,), right, (True, right),
            ("filling", (3, right)), ((3, right),), False, 0, "", (), [], "None",
        ):
            self.told(False, shows_lacking, TABLE, RULES, (0,), (9,), thing)
            self.told(False, shows_lacking, TABLE, RULES, (1, 2), (2, 3), thing)
        self.told(True, shows_lacking, TABLE, RULES, (0,), (9,), (3, right))

    def test_any_value(self):
        for thing in ANY_VALUES + SOME_TABLES + WRONG_TABLES:
            self.told(thing is None, shows_lacking, TABLE, RULES, (1, 2), (2, 3), thing)
            self.told(False, shows_lacking, TABLE, RULES, (1, 2), (2, 5), thing)
            # (True, ()) is equal to (1, ()), but it is no table.
            self.told(repr(thing) == "(1, ())", shows_lacking, (1, ()), (), (0,), (3,), thing)

    def test_wrong_arguments(self):
        self.refuses_tables_then_rules(
            shows_lacking, ((0,), (1,), None), ((1, 0), (), (2, ())), (None, None, None),
        )

    def test_argument_names(self):
        self.assertIs(shows_lacking(thing=None, values=(4,), columns=(1,), rules=RULES, table=TABLE), True)


class SureRejoinedTest(CallCase):
    def test_two_parts(self):
        table = (3, ((1, 2, 3), (1, 4, 5), (6, 4, None)))
        parts = ((0, 1), (0, 2))
        self.assertEqual(self.ask(sure_rejoined, table, (), parts), ((1, 2, 3), (1, 2, 5), (1, 4, 3), (1, 4, 5)))
        self.assertEqual(self.ask(sure_rejoined, table, (((1,), 2),), parts), (
            (1, 2, 3), (1, 2, 5), (1, 4, 3), (1, 4, 5), (6, 4, 5),
        ))
        self.assertEqual(self.ask(sure_rejoined, table, (), ((0, 1), (1, 2))), ((1, 2, 3), (1, 4, 5), (6, 4, 5)))
        self.assertEqual(self.ask(sure_rejoined, table, (), ((0, 1, 2),)), ((1, 2, 3), (1, 4, 5)))

    def test_rows_that_no_row_of_the_table_is_sure_of(self):
        # Each part is sure, though no row of the table has values in all columns.
        table = (3, ((1, 2, None), (None, 2, 3)))
        self.assertEqual(self.ask(sure_rejoined, table, (), ((0, 1), (1, 2))), ((1, 2, 3),))
        self.assertEqual(self.ask(sure_rejoined, table, (), ((0, 1, 2),)), ())
        self.assertEqual(self.ask(sure_rejoined, table, (), ((0,), (1,), (2,))), ((1, 2, 3),))

    def test_a_part_without_sure_values(self):
        self.assertEqual(self.ask(sure_rejoined, (2, ((1, None), (2, None))), (), ((0,), (1,))), ())
        self.assertEqual(self.ask(sure_rejoined, (2, ((1, None), (2, None))), (), ((0,), (0, 1))), ())

    def test_full_tables(self):
        walk = Walk(43)
        for turn in range(60):
            many = 1 + walk.number(5)
            table = walk.full_table(many, walk.number(7), range(1 + walk.number(4)))
            parts = walk.parts(many)
            self.assertEqual(self.ask(sure_rejoined, table, (), parts), rejoined(table, parts))

    def test_edges(self):
        for many in range(1, 6):
            whole = (tuple(range(many)),)
            self.assertEqual(self.ask(sure_rejoined, (many, ()), (), whole), ())
            self.assertEqual(self.ask(sure_rejoined, (many, ((None,) * many,)), (), whole * 5), ())
            self.assertEqual(self.ask(sure_rejoined, (many, ((9999,) * many,) * 8), (), whole * 5), ((9999,) * many,))
        table = (5, tuple((row,) * 5 for row in range(8)))
        single = tuple((column,) for column in range(5))
        self.assertEqual(self.ask(sure_rejoined, table, (), single), tuple(product(range(8), repeat=5)))

    def test_wrong_arguments(self):
        self.refuses_tables_then_rules(sure_rejoined, (((0, 1),),), ((),), (None,))

    def test_no_parts(self):
        for many, parts in WRONG_PARTS:
            self.refused(NoParts, sure_rejoined, (many, ((0,) * many,)), (), parts)
            self.refused(NoParts, sure_rejoined, (many, ((1,) * many, (2,) * many)), (((), 0),), parts)
        for parts in ANY_VALUES + SOME_TABLES:
            self.refused(NoParts, sure_rejoined, CLASH, CLASH_RULES, parts)

    def test_then_no_filling(self):
        for parts in (((0, 1),), ((0,), (1,)), ((1,), (0, 1))):
            self.refused(NoFilling, sure_rejoined, CLASH, CLASH_RULES, parts)

    def test_argument_names(self):
        self.assertEqual(sure_rejoined(parts=((0,),), rules=(), table=(1, ((3,),))), ((3,),))


class WrongColumnsAndValuesTest(CallCase):
    """NoColumns, then NoRow, then NoFilling."""

    def test_no_columns(self):
        clash = (3, ((1, 2, 3), (1, 2, 4), (None, 0, 0)))
        others = [value for value in ANY_VALUES if value not in ((), (1,), (1, 2))]
        for table in (TABLE, clash, (3, ())):
            for columns in WRONG_COLUMNS + others + SOME_TABLES:
                self.refused(NoColumns, sure_rows, table, RULES, columns)
                for values in ((), (1,), (1, 2), None):
                    self.refused(NoColumns, lacking, table, RULES, columns, values)
                    self.refused(NoColumns, shows_lacking, table, RULES, columns, values, None)

    def test_the_columns_are_those_of_the_table(self):
        for many in range(1, 6):
            for column in range(-1, 8):
                if 0 <= column < many:
                    self.assertEqual(self.ask(sure_rows, (many, ((7,) * many,)), (), (column,)), ((7,),))
                else:
                    self.refused(NoColumns, sure_rows, (many, ((7,) * many,)), (), (column,))

    def both(self, error, table, rules, columns, values):
        self.refused(error, lacking, table, rules, columns, values)
        self.refused(error, shows_lacking, table, rules, columns, values, None)
        self.refused(error, shows_lacking, table, rules, columns, values, table)

    def test_no_row(self):
        clash = (3, ((1, 2, 3), (1, 2, 4), (None, 0, 0)))
        others = [value for value in ANY_VALUES if value != (1, 2)]
        for table in (TABLE, clash, (3, ())):
            for values in WRONG_VALUES + others + SOME_TABLES:
                self.both(NoRow, table, RULES, (0, 2), values)
            for length in range(7):
                if length != 3:
                    self.both(NoRow, table, RULES, (0, 1, 2), (1,) * length)
            for values in ((0,), None, [], "", {}, (None,), ((),)):
                self.both(NoRow, table, RULES, (), values)

    def test_then_no_filling(self):
        for columns in column_sets(2):
            self.refused(NoFilling, sure_rows, CLASH, CLASH_RULES, columns)
            for value in (0, 5, 9999):
                self.both(NoFilling, CLASH, CLASH_RULES, columns, (value,) * len(columns))

    def test_exceptions_in_their_order(self):
        broken = (2, list(CLASH[1]))
        self.both(NoTable, broken, (((0,), 2),), (2,), ())
        self.both(NoRules, CLASH, (((0,), 2),), (2,), ())
        self.both(NoColumns, CLASH, CLASH_RULES, (2,), ())
        self.both(NoRow, CLASH, CLASH_RULES, (1,), ())
        self.both(NoFilling, CLASH, CLASH_RULES, (1,), (5,))
        self.refused(NoTable, sure_rows, broken, (((0,), 2),), (2,))
        self.refused(NoRules, sure_rows, CLASH, (((0,), 2),), (2,))
        self.refused(NoColumns, sure_rows, CLASH, CLASH_RULES, (2,))
        self.refused(NoFilling, sure_rows, CLASH, CLASH_RULES, (1,))
        self.refused(NoTable, sure_rejoined, broken, (((0,), 2),), ((0,),))
        self.refused(NoRules, sure_rejoined, CLASH, (((0,), 2),), ((0,),))
        self.refused(NoParts, sure_rejoined, CLASH, CLASH_RULES, ((0,),))
        self.refused(NoFilling, sure_rejoined, CLASH, CLASH_RULES, ((0, 1),))


if __name__ == "__main__":
    unittest.main()
