"""Joined cells: [2], [20]."""

import unittest
from itertools import combinations, permutations, product

from blankcells.errors import NoRules, NoTable
from blankcells.joining import lots
from tests.checks import CallCase
from tests.samples import ANY_VALUES, SOME_TABLES, all_rules, small_rule_tuples
from tests.trying import fillings_by_trying, small_tables, value_pairs

RULES = (((0,), 1), ((1,), 2))
TABLE = (3, ((1, 2, None), (1, None, 3), (None, 4, 5)))


def lots_by_pairs(table, rules):
    """The lots by their definition: the joined pairs of each column, until nothing is added."""
    many, rows = table
    numbers = range(len(rows))
    joined = value_pairs(table)
    size = -1
    while size != len(joined):
        size = len(joined)
        for given, then in rules:
            for row, other in product(numbers, repeat=2):
                if all((column, row, other) in joined for column in given):
                    joined.add((then, row, other))
        for column, row, other, third in product(range(many), numbers, numbers, numbers):
            if (column, row, other) in joined and (column, other, third) in joined:
                joined.add((column, row, third))
    return tuple(
        tuple(sorted({tuple(other for other in numbers if (column, row, other) in joined) for row in numbers}))
        for column in range(many)
    )


class LotsTest(CallCase):
    def test_cells_of_one_value(self):
        table = (2, ((1, 5), (2, 5), (1, 6), (None, None), (3, 5), (None, 6)))
        self.assertEqual(self.ask(lots, table, ()), (((0, 2), (1,), (3,), (4,), (5,)), ((0, 1, 4), (2, 5), (3,))))

    def test_blanks_are_not_joined_by_themselves(self):
        self.assertEqual(self.ask(lots, (1, ((None,), (None,))), ()), (((0,), (1,)),))
        self.assertEqual(self.ask(lots, (2, ((None, 1), (None, 2))), (((0,), 1),)), (((0,), (1,)), ((0,), (1,))))

    def test_equal_values_of_different_columns_are_not_joined(self):
        self.assertEqual(self.ask(lots, (2, ((1, 2), (2, 1))), (((0,), 1), ((1,), 0))), (((0,), (1,)), ((0,), (1,))))

    def test_the_values_0_and_9999(self):
        table = (2, ((0, 9999), (None, None), (0, 9999), (9999, 0)))
        self.assertEqual(self.ask(lots, table, ()), (((0, 2), (1,), (3,)), ((0, 2), (1,), (3,))))

    def test_one_step(self):
        self.assertEqual(self.ask(lots, (2, ((1, 5), (1, None), (2, 6))), (((0,), 1),)), (((0, 1), (2,)),) * 2)
        self.assertEqual(self.ask(lots, (2, ((1, None), (2, 6), (1, None))), (((0,), 1),)), (((0, 2), (1,)),) * 2)

    def test_a_step_needs_each_given_column(self):
        rules = (((0, 1), 2),)
        table = (3, ((1, 1, None), (1, 2, None), (2, 2, None), (1, 2, None)))
        self.assertEqual(self.ask(lots, table, rules), (((0, 1, 3), (2,)), ((0,), (1, 2, 3)), ((0,), (1, 3), (2,))))

    def test_steps_that_make_each_other_possible(self):
        expected = (((0, 1), (2,)),) * 3
        self.assertEqual(self.ask(lots, TABLE, RULES), expected)
        self.assertEqual(self.ask(lots, TABLE, RULES[::-1]), expected)

    def test_a_long_chain_in_any_order_of_the_rules(self):
        chain = [((0,), 1), ((1,), 2), ((2,), 3), ((3,), 4)]
        table = (5, ((1, None, None, None, 7), (2, None, None, None, 8), (1, None, None, None, None)))
        for rules in permutations(chain):
            self.assertEqual(self.ask(lots, table, rules), (((0, 2), (1,)),) * 5)

    def test_steps_there_and_back(self):
        # Each rule needs what the other one has joined, again and again down the rows.
        rules = (((0,), 1), ((1,), 0))
        table = (2, ((1, None), (1, 5), (None, 5), (None, None), (2, 6)))
        expected = (((0, 1, 2), (3,), (4,)),) * 2
        self.assertEqual(self.ask(lots, table, rules), expected)
        table = (2, ((1, 1), (None, 1), (None, 2), (3, 2), (3, 3), (None, 3), (None, 4), (5, 4)))
        expected = (((0, 1), (2, 3, 4, 5), (6, 7)), ((0, 1), (2, 3, 4, 5), (6, 7)))
        self.assertEqual(self.ask(lots, table, rules), expected)

    def test_without_given_columns(self):
        table = (2, ((1, None), (2, 5), (None, None)))
        self.assertEqual(self.ask(lots, table, (((), 1),)), (((0,), (1,), (2,)), ((0, 1, 2),)))
        self.assertEqual(self.ask(lots, table, (((1,), 0), ((), 1))), (((0, 1, 2),),) * 2)
        self.assertEqual(self.ask(lots, (1, ((None,),) * 8), (((), 0),)), ((tuple(range(8)),),))

    def test_with_a_conflict(self):
        table = (2, ((1, 5), (1, 6), (2, 5)))
        self.assertEqual(self.ask(lots, table, (((0,), 1),)), (((0, 1), (2,)), ((0, 1, 2),)))
        # The steps go on behind the first two different values that are joined.
        table = (3, ((1, 5, None), (1, 6, None), (2, 6, None), (3, 7, None)))
        self.assertEqual(self.ask(lots, table, RULES), (((0, 1), (2,), (3,)), ((0, 1, 2), (3,)), ((0, 1, 2), (3,))))

    def test_without_rows_and_with_one(self):
        for many in range(1, 6):
            for rules in ((), tuple(all_rules(many)[:8]), (((), 0),) * 8):
                self.assertEqual(self.ask(lots, (many, ()), rules), ((),) * many)
                self.assertEqual(self.ask(lots, (many, ((None,) * many,)), rules), (((0,),),) * many)
                self.assertEqual(self.ask(lots, (many, ((7,) * many,)), rules), (((0,),),) * many)

    def test_equal_rows(self):
        self.assertEqual(self.ask(lots, (2, ((1, 2), (1, 2))), ()), (((0, 1),),) * 2)
        self.assertEqual(self.ask(lots, (2, ((1, None), (1, None))), ()), (((0, 1),), ((0,), (1,))))

    def test_order_of_lots_and_rows(self):
        table = (1, ((9,), (3,), (None,), (3,), (9,), (0,), (3,), (None,)))
        self.assertEqual(self.ask(lots, table, ()), (((0, 4), (1, 3, 6), (2,), (5,), (7,)),))
        # A late row is joined with an early one only by steps.
        table = (2, ((1, None), (2, 8), (1, 9), (2, None)))
        self.assertEqual(self.ask(lots, table, (((0,), 1),)), (((0, 2), (1, 3)),) * 2)

    def test_repeated_rules(self):
        self.assertEqual(self.ask(lots, TABLE, (RULES[1], RULES[0]) * 4), lots(TABLE, RULES))


class LotsAgainstOthersTest(CallCase):
    def compare(self, many, amount, cells, many_rules):
        for table in small_tables(many, amount, cells):
            for rules in many_rules:
                self.assertEqual(lots(table, rules), lots_by_pairs(table, rules), (table, rules))

    def test_all_small_tables_by_pairs(self):
        self.compare(1, 4, (None, 0, 1), small_rule_tuples(1))
        self.compare(2, 2, (None, 0, 1), small_rule_tuples(2))
        self.compare(2, 3, (None, 0, 1), [(((0,), 1), ((1,), 0)), (((1,), 0),), (((), 1), ((1,), 0))])
        self.compare(3, 2, (None, 0), small_rule_tuples(3))

    def test_larger_tables_by_pairs(self):
        # A fixed walk through cells and rules stands for a choice among the many tables there are.
        state = 1
        for turn in range(150):
            numbers = []
            for place in range(48):
                state = (state * 1103515245 + 12345) & 0x7FFFFFFF
                numbers.append(state >> 16)
            many = 2 + numbers[0] % 4
            amount = 3 + numbers[1] % 6
            cells = [None if number % 5 < 2 else number % 4 for number in numbers[2:42]]
            rows = tuple(tuple(cells[row * many:(row + 1) * many]) for row in range(amount))
            choice = all_rules(many)
            rules = tuple(choice[number % len(choice)] for number in numbers[42:43 + turn % 6])
            self.assertEqual(self.ask(lots, (many, rows), rules), lots_by_pairs((many, rows), rules))

    def test_joined_cells_are_those_that_every_filling_has_equal(self):
        # With a new value for each blank, cells that are not joined differ in some filling.
        for many, amount, many_rules in ((2, 2, small_rule_tuples(2)), (1, 3, small_rule_tuples(1))):
            for table in small_tables(many, amount, (None, 0, 1)):
                values = (0, 1, 2, 3, 4, 5)[:2 + sum(row.count(None) for row in table[1])]
                for rules in many_rules:
                    self.compare_with_fillings(table, rules, fillings_by_trying(table, rules, values))

    def test_joined_cells_by_fillings_in_larger_tables(self):
        for table, rules in (
            (TABLE, RULES),
            ((3, ((1, None, 2), (1, None, None), (3, 4, None))), RULES),
            ((3, ((1, None, 2), (1, None, None), (3, 4, None))), (((0,), 1), ((1,), 2), ((2,), 0))),
            ((2, ((1, None), (1, 5), (None, 5), (6, 7))), (((0,), 1), ((1,), 0))),
            ((2, ((None, None), (1, 5), (None, None))), (((0,), 1), ((), 0))),
        ):
            values = tuple(range(1, 12))
            found = fillings_by_trying(table, rules, values)
            self.assertTrue(found)
            self.compare_with_fillings(table, rules, found)

    def compare_with_fillings(self, table, rules, found):
        columns = lots(table, rules)
        for column, in_column in enumerate(columns):
            for row, other in combinations(range(len(table[1])), 2):
                joined = any(row in lot and other in lot for lot in in_column)
                if found:
                    equal = all(full[1][row][column] == full[1][other][column] for full in found)
                    self.assertEqual(joined, equal, (table, rules, column, row, other))
        clash = any(
            len({table[1][row][column] for row in lot} - {None}) > 1
            for column, in_column in enumerate(columns) for lot in in_column
        )
        self.assertEqual(clash, not found, (table, rules))


class LotsWrongArgumentsTest(CallCase):
    def test_no_table_first(self):
        wrong = [
            (0, ()), (6, ()), (2, ((1, 2),) * 9), (2, ((1,),)), (2, ((1, 2, 3),)), (2, ((1, -1),)), (2, ((1, 10000),)),
            (2, ((1, True),)), (True, ()), [2, ()], (2, []), (2, ([1, 2],)),
        ]
        for table in wrong + ANY_VALUES:
            for rules in ((), RULES, None, [], (((), 0),) * 9):
                self.refused(NoTable, lots, table, rules)

    def test_then_no_rules(self):
        wrong = [
            [], [((0,), 1)], ((0,), 1), (((0,), 1),) * 9, (((0,), 3),), (((0,), 0),), (((1, 0), 2),), (((0, 0), 1),),
            (((3,), 1),), (((0,), True),), (((False,), 1),), (([0], 1),), ([(0,), 1],), (((0,), 1), None),
        ]
        for rules in wrong + ANY_VALUES + SOME_TABLES:
            if rules != ():
                self.refused(NoRules, lots, TABLE, rules)
                self.refused(NoRules, lots, (3, ()), rules)

    def test_rules_are_those_of_the_columns_of_the_table(self):
        self.refused(NoRules, lots, (2, ((1, 2),)), RULES)

    def test_argument_names(self):
        self.assertEqual(lots(rules=RULES, table=TABLE), lots(TABLE, RULES))


if __name__ == "__main__":
    unittest.main()
