"""Tables, rules, blanks, and whether rules hold: [2], [10], [11], [12]."""

import unittest
from itertools import product

from blankcells.errors import NoFull, NoMany, NoRule, NoRules, NoTable
from blankcells.tables import are_rules, blanks, breaking, holds, is_table
from tests.checks import CallCase
from tests.samples import (
    ANY_VALUES, SOME_TABLES, WRONG_MANY, WRONG_RULES, WRONG_TABLES, all_rules, small_rule_tuples,
)

RULES = (((0,), 1), ((1,), 2))
TABLE = (3, ((1, 2, None), (1, None, 3), (None, 4, 5)))
FULL = (3, ((1, 2, 3), (1, 2, 3), (2, 4, 5)))

RIGHT_TABLES = SOME_TABLES + [
    TABLE, FULL, (1, ((0,),)), (1, ((9999,),)), (1, ((None,),)), (1, ((None,),) * 8), (1, ((7,),) * 8), (2, ()),
    (3, ()), (4, ()), (4, ((1, 2, 3, 4),)), (5, ((0, 9999, None, 1, 2),) * 8), (5, ((None,) * 5,) * 8),
    (5, ((0,) * 5,)),
    (5, tuple((row, row, None, row, 9999 - row) for row in range(8))),
]

# (many, what are rules of many columns)
RIGHT_RULES = [
    (1, ()), (2, ()), (5, ()), (1, (((), 0),)), (2, (((), 1),)), (5, (((), 4),)), (2, (((0,), 1),)), (2, (((1,), 0),)),
    (3, (((0, 2), 1),)), (3, RULES), (3, RULES[::-1]), (5, (((0, 1, 2, 3), 4),)), (5, (((1, 2, 3, 4), 0),)),
    (2, (((0,), 1),) * 2), (2, (((0,), 1),) * 8), (1, (((), 0),) * 8), (3, tuple(all_rules(3)[:8])),
    (4, (((0, 3), 1), ((), 2), ((0, 3), 1), ((1, 2, 3), 0))),
]


class IsTableTest(CallCase):
    def test_tables(self):
        for table in RIGHT_TABLES:
            self.told(True, is_table, table)

    def test_wrong_in_one_part(self):
        for thing in WRONG_TABLES:
            self.told(False, is_table, thing)

    def test_any_value(self):
        for thing in ANY_VALUES + [RULES]:
            self.told(False, is_table, thing)

    def test_any_value_in_the_place_of_each_part(self):
        for thing in ANY_VALUES:
            self.told(thing is not True and thing in (1,), is_table, (thing, ((3,),)))
            self.told(thing == (), is_table, (2, thing))
            self.told(thing in ((1, 2),), is_table, (2, ((3, 4), thing)))
            is_cell = thing is None or (not isinstance(thing, bool) and thing in (0, 1, 6))
            self.told(is_cell, is_table, (2, ((3, thing), (4, 5))))
            self.told(is_cell, is_table, (2, ((3, 4), (thing, 5))))

    def test_all_small_numbers_of_columns_rows_and_cells(self):
        for many, length, amount in product(range(8), range(8), range(11)):
            right = 1 <= many <= 5 and amount <= 8 and (length == many or amount == 0)
            self.told(right, is_table, (many, ((9999,) * length,) * amount))

    def test_argument_name(self):
        self.assertIs(is_table(thing=(1, ())), True)


class AreRulesTest(CallCase):
    def test_rules(self):
        for many, rules in RIGHT_RULES:
            self.told(True, are_rules, many, rules)

    def test_every_rule(self):
        for many in range(1, 6):
            for rule in all_rules(many):
                self.told(True, are_rules, many, (rule,))
                for fewer in range(1, many):
                    self.told(max(rule[0] + (rule[1],)) < fewer, are_rules, fewer, (rule,))

    def test_given_columns_and_then(self):
        for first, second, then in product(range(-1, 4), repeat=3):
            right = 0 <= first < second <= 2 and 0 <= then <= 2 and then not in (first, second)
            self.told(right, are_rules, 3, (((first, second), then),))

    def test_wrong_rules(self):
        for many, rule in WRONG_RULES:
            self.told(False, are_rules, many, (rule,))
            self.told(False, are_rules, many, (((), 0), rule))
            self.told(False, are_rules, many, (rule, ((), 0)))
            self.told(False, are_rules, many, (((), 0),) * 7 + (rule,))

    def test_amount_of_rules(self):
        for amount in range(12):
            self.told(amount <= 8, are_rules, 2, (((0,), 1),) * amount)

    def test_a_list_is_no_tuple(self):
        self.told(False, are_rules, 2, [])
        self.told(False, are_rules, 2, [((0,), 1)])
        self.told(False, are_rules, 2, {})
        self.told(False, are_rules, 2, {0: ((0,), 1)})
        self.told(False, are_rules, 2, {((0,), 1): 0})
        self.told(False, are_rules, 2, "")

    def test_any_value(self):
        for many in range(1, 6):
            for thing in ANY_VALUES + SOME_TABLES:
                self.told(thing == (), are_rules, many, thing)

    def test_any_value_in_the_place_of_each_part(self):
        for thing in ANY_VALUES:
            integer = isinstance(thing, int) and not isinstance(thing, bool)
            self.told(False, are_rules, 3, (thing,))
            self.told(thing in ((), (1,)), are_rules, 3, ((thing, 2),))
            self.told(integer and thing == 1, are_rules, 3, (((0,), thing),))
            self.told(integer and thing in (0, 1), are_rules, 3, (((thing,), 2),))

    def test_no_number_of_columns(self):
        for many in WRONG_MANY:
            for thing in [(), RULES, None, [], "rules", 2, (((), 0),) * 9]:
                self.refused(NoMany, are_rules, many, thing)

    def test_any_value_as_the_number_of_columns(self):
        for many in ANY_VALUES:
            if many is True or many != 1:
                self.refused(NoMany, are_rules, many, ())

    def test_argument_names(self):
        self.assertIs(are_rules(many=3, thing=RULES), True)
        self.assertRaises(NoMany, are_rules, thing=RULES, many=0)


class BlanksTest(CallCase):
    def test_places_ascend(self):
        self.assertEqual(self.ask(blanks, TABLE), ((0, 2), (1, 1), (2, 0)))
        self.assertEqual(
            self.ask(blanks, (2, ((None, None), (1, 1), (None, 0), (0, None)))), ((0, 0), (0, 1), (2, 0), (3, 1))
        )
        self.assertEqual(self.ask(blanks, (1, ((None,),) * 8)), tuple((row, 0) for row in range(8)))
        self.assertEqual(self.ask(blanks, (5, ((None,) * 5,) * 8)), tuple(product(range(8), range(5))))

    def test_without_blanks(self):
        self.assertEqual(self.ask(blanks, FULL), ())
        self.assertEqual(self.ask(blanks, (2, ((0, 0),))), ())
        for many in range(1, 6):
            self.assertEqual(self.ask(blanks, (many, ())), ())

    def test_all_small_tables(self):
        for cells in product((None, 0, 9999), repeat=6):
            rows = (cells[:2], cells[2:4], cells[4:])
            expected = tuple((at // 2, at % 2) for at in range(6) if cells[at] is None)
            self.assertEqual(blanks((2, rows)), expected)
            rows = (cells[:3], cells[3:])
            expected = tuple((at // 3, at % 3) for at in range(6) if cells[at] is None)
            self.assertEqual(blanks((3, rows)), expected)

    def test_no_table(self):
        for thing in WRONG_TABLES + ANY_VALUES:
            self.refused(NoTable, blanks, thing)

    def test_argument_name(self):
        self.assertEqual(blanks(table=TABLE), blanks(TABLE))


def pairs_by_hand(table, rule):
    """The breaking pairs, in other words than the program's."""
    many, rows = table
    given, then = rule
    found = []
    for other in range(len(rows)):
        for row in range(other):
            key = tuple(rows[row][at] for at in given)
            other_key = tuple(rows[other][at] for at in given)
            if key == other_key and not rows[row][then] == rows[other][then]:
                found.append((row, other))
    return tuple(sorted(found))


class HoldsAndBreakingTest(CallCase):
    def test_rules_that_hold(self):
        self.told(True, holds, FULL, RULES)
        self.told(True, holds, FULL, ())
        self.told(True, holds, (2, ((1, 5), (2, 5), (3, 5))), (((0,), 1), ((), 1)))
        self.told(True, holds, (3, ((1, 1, 1), (1, 2, 2), (2, 1, 3))), (((0, 1), 2), ((2,), 0), ((2,), 1)))

    def test_rules_that_do_not_hold(self):
        self.told(False, holds, (2, ((1, 5), (1, 6), (2, 5))), (((0,), 1),))
        self.told(False, holds, (2, ((1, 5), (1, 6), (2, 5))), (((1,), 0),))
        self.told(False, holds, (3, ((1, 2, 3), (1, 2, 4))), RULES)
        self.told(False, holds, (3, ((1, 2, 3), (1, 2, 4))), RULES[::-1])
        self.told(False, holds, (3, ((1, 2, 3), (1, 3, 3))), RULES)
        self.told(False, holds, (3, ((1, 1, 1), (1, 2, 2), (1, 1, 3))), (((0, 1), 2),))

    def test_the_only_clash_is_anywhere(self):
        for row in range(8):
            for other in range(row + 1, 8):
                keys = list(range(8))
                keys[other] = row
                table = (2, tuple((keys[at], at) for at in range(8)))
                self.told(False, holds, table, (((0,), 1),))
                self.assertEqual(self.ask(breaking, table, ((0,), 1)), ((row, other),))
                self.told(True, holds, table, (((1,), 0),))

    def test_the_broken_rule_is_anywhere(self):
        table = (2, ((1, 5), (1, 6)))
        for at in range(8):
            rules = tuple(((0,), 1) if number == at else ((), 0) for number in range(8))
            self.told(False, holds, table, rules)
        self.told(True, holds, table, (((), 0),) * 8)

    def test_pairs_ascend(self):
        table = (2, ((1, 5), (2, 7), (1, 6), (2, 7), (1, 5), (2, 8)))
        self.assertEqual(self.ask(breaking, table, ((0,), 1)), ((0, 2), (1, 5), (2, 4), (3, 5)))
        self.assertEqual(self.ask(breaking, table, ((1,), 0)), ())
        table = (1, ((0,), (1,), (0,), (2,)))
        self.assertEqual(self.ask(breaking, table, ((), 0)), ((0, 1), (0, 3), (1, 2), (1, 3), (2, 3)))

    def test_without_given_columns(self):
        self.told(True, holds, (2, ((1, 5), (2, 5))), (((), 1),))
        self.told(False, holds, (2, ((1, 5), (2, 5))), (((), 0),))
        self.told(False, holds, (1, ((1,), (1,), (2,))), (((), 0),))
        self.assertEqual(self.ask(breaking, (2, ((1, 5), (2, 5))), ((), 0)), ((0, 1),))
        self.assertEqual(self.ask(breaking, (2, ((1, 5), (2, 5))), ((), 1)), ())

    def test_no_rows_one_row_and_equal_rows(self):
        for many in range(1, 6):
            rules = all_rules(many)
            row = tuple(range(many))
            for rows in ((), (row,), (row, row), (row,) * 8):
                self.told(True, holds, (many, rows), tuple(rules[:8]))
                self.told(True, holds, (many, rows), tuple(rules[-8:]))
                for rule in rules:
                    self.assertEqual(self.ask(breaking, (many, rows), rule), ())

    def test_all_small_full_tables(self):
        for amount, many in ((0, 2), (1, 2), (2, 2), (3, 2), (4, 2), (2, 3), (3, 3)):
            for cells in product((0, 1, 2) if amount * many <= 6 else (0, 1), repeat=amount * many):
                table = (many, tuple(cells[at * many:(at + 1) * many] for at in range(amount)))
                for rule in all_rules(many):
                    expected = pairs_by_hand(table, rule)
                    self.assertEqual(breaking(table, rule), expected)
                    self.assertIs(holds(table, (rule,)), expected == ())

    def test_holds_is_all_of_the_rules(self):
        for cells in product((0, 1), repeat=6):
            table = (2, (cells[:2], cells[2:4], cells[4:]))
            for rules in small_rule_tuples(2):
                self.assertIs(holds(table, rules), all(not pairs_by_hand(table, rule) for rule in rules))

    def test_no_table_first(self):
        for thing in WRONG_TABLES + ANY_VALUES:
            self.refused(NoTable, holds, thing, RULES)
            self.refused(NoTable, breaking, thing, RULES[0])
        for thing in ANY_VALUES:
            self.refused(NoTable, holds, (6, ((None,) * 6,)), thing)
            self.refused(NoTable, breaking, (2, [(1, None)]), thing)

    def test_then_no_rules(self):
        for table in (TABLE, FULL, (3, ())):
            for thing in ANY_VALUES + SOME_TABLES + [(((0,), 1),) * 9, [((0,), 1)], (((0,), 3),), ((0,), 1)]:
                if thing != ():
                    self.refused(NoRules, holds, table, thing)
        for many, rule in WRONG_RULES:
            self.refused(NoRules, holds, (many, ((None,) * many,)), (rule,))
            self.refused(NoRules, holds, (many, ((0,) * many,)), (((), 0), rule))

    def test_then_no_rule(self):
        for table in (TABLE, FULL, (3, ())):
            for thing in ANY_VALUES + SOME_TABLES + [RULES, (RULES[0],), [(0,), 1]]:
                self.refused(NoRule, breaking, table, thing)
        for many, rule in WRONG_RULES:
            self.refused(NoRule, breaking, (many, ((None,) * many,)), rule)
            self.refused(NoRule, breaking, (many, ((0,) * many,)), rule)

    def test_rules_are_those_of_the_columns_of_the_table(self):
        self.refused(NoRules, holds, (2, ((1, 2),)), RULES)
        self.refused(NoRule, breaking, (2, ((1, 2),)), RULES[1])

    def test_then_no_full(self):
        for table in (TABLE, (3, ((None, 1, 2),)), (3, ((1, 2, 3), (1, 2, 3), (1, 2, None)))):
            for rules in ((), RULES, (((), 0),) * 8):
                self.refused(NoFull, holds, table, rules)
            for rule in all_rules(3):
                self.refused(NoFull, breaking, table, rule)

    def test_the_values_0_and_9999(self):
        self.told(True, holds, (2, ((0, 9999), (0, 9999))), (((0,), 1),))
        self.told(False, holds, (2, ((0, 9999), (0, 0))), (((0,), 1),))

    def test_argument_names(self):
        self.assertIs(holds(rules=RULES, table=FULL), True)
        self.assertEqual(breaking(rule=RULES[0], table=FULL), ())


if __name__ == "__main__":
    unittest.main()
