"""What a blank, and what two blanks together, can and cannot be: [2], [30], [31], [32], [33], [90]."""

import unittest
from itertools import product

from blankcells.certain import certain, choices, relation, together
from blankcells.errors import NoFilling, NoPlace, NoRules, NoTable
from blankcells.fillings import general, verdict
from tests.checks import CallCase
from tests.samples import ANY_VALUES, SOME_TABLES, WRONG_PLACES, small_rule_tuples
from tests.trying import Walk, all_full, blank_places, enough_values, rules_hold, small_tables

RULES = (((0,), 1), ((1,), 2))
TABLE = (3, ((1, 2, None), (1, None, 3), (None, 4, 5)))
CLASH = (2, ((1, 5), (1, 6), (2, 5)))
BOTH = (((0,), 1), ((1,), 0))


def all_places(table):
    """All places of a table."""
    return [(row, column) for row in range(len(table[1])) for column in range(table[0])]


class Tried:
    """All fillings of a table with enough values, and what can be read off them."""

    def __init__(self, table, fulls, rules):
        self.table = table
        self.found = [full[1] for full in fulls if rules_hold(full[1], rules)]
        self.cells = {
            (row, column): {rows[row][column] for rows in self.found} for row, column in all_places(table)
        }

    def certain(self):
        return tuple(
            (row, column, min(self.cells[row, column]))
            for row, column in blank_places(self.table) if len(self.cells[row, column]) == 1
        )

    def relation(self, place, other):
        equal = {rows[place[0]][place[1]] == rows[other[0]][other[1]] for rows in self.found}
        return "sometimes" if len(equal) == 2 else "always" if equal == {True} else "never"

    def choices(self, place):
        if len(self.cells[place]) == 1:
            return ("only", min(self.cells[place]))
        return ("all but", tuple(value for value in enough_values(self.table) if value not in self.cells[place]))

    def together(self, place, other):
        both = {(rows[place[0]][place[1]], rows[other[0]][other[1]]) for rows in self.found}
        alone = product(self.column_values(place), self.column_values(other))
        return tuple(sorted(set(alone) - both))

    def column_values(self, place):
        """The values of its column that a cell has in some filling."""
        return self.cells[place] & {row[place[1]] for row in self.table[1]}


class TryingTest(CallCase):
    """All four functions, by all fillings."""

    def compare(self, table, many_rules):
        fulls = all_full(table, enough_values(table))
        for rules in many_rules:
            tried = Tried(table, fulls, rules)
            if tried.found:
                self.compare_one(table, rules, tried)
            else:
                self.compare_without_filling(table, rules)

    def compare_one(self, table, rules, tried):
        about = (table, rules)
        self.assertEqual(certain(table, rules), tried.certain(), about)
        for place in all_places(table):
            self.assertEqual(choices(table, rules, place), tried.choices(place), (about, place))
            for other in all_places(table):
                both = (place, other)
                self.assertEqual(relation(table, rules, *both), tried.relation(*both), (about, both))
                self.assertEqual(together(table, rules, *both), tried.together(*both), (about, both))

    def compare_without_filling(self, table, rules):
        self.assertRaises(NoFilling, certain, table, rules)
        for place in all_places(table):
            self.assertRaises(NoFilling, choices, table, rules, place)
            for other in all_places(table):
                self.assertRaises(NoFilling, relation, table, rules, place, other)
                self.assertRaises(NoFilling, together, table, rules, place, other)

    def test_one_column(self):
        for table in small_tables(1, 3, (None, 0, 1)):
            self.compare(table, small_rule_tuples(1))

    def test_two_columns(self):
        for table in small_tables(2, 2, (None, 0, 1)):
            self.compare(table, small_rule_tuples(2))

    def test_two_columns_and_three_rows(self):
        for number, table in enumerate(small_tables(2, 3, (None, 0, 1))):
            if len(blank_places(table)) <= 3 and number % 4 < 2:
                self.compare(table, [BOTH, (((1,), 0),), (((), 1), ((1,), 0))])

    def test_three_columns(self):
        walk = Walk(21)
        for turn in range(80):
            table = walk.table(3, 2 + walk.number(3), range(1 + walk.number(3)), 4)
            self.compare(table, [RULES, walk.rules(3, 3), walk.rules(3, 6)])

    def test_larger_tables(self):
        walk = Walk(22)
        for turn in range(40):
            many = 2 + walk.number(4)
            table = walk.table(many, 3 + walk.number(6), range(3 + walk.number(5)), 3)
            self.compare(table, [walk.rules(many, 2)])


class CertainTest(CallCase):
    def test_certain(self):
        self.assertEqual(self.ask(certain, TABLE, RULES), ((0, 2, 3), (1, 1, 2)))
        self.assertEqual(self.ask(certain, TABLE, RULES[:1]), ((1, 1, 2),))
        self.assertEqual(self.ask(certain, TABLE, ()), ())
        self.assertEqual(self.ask(certain, (2, ((1, 0), (1, None))), (((0,), 1),)), ((1, 1, 0),))

    def test_ascending(self):
        table = (2, ((None, None), (4, 5), (None, None)))
        rules = (((), 1), ((), 0))
        self.assertEqual(self.ask(certain, table, rules), ((0, 0, 4), (0, 1, 5), (2, 0, 4), (2, 1, 5)))

    def test_blanks_that_are_joined_without_a_value(self):
        self.assertEqual(self.ask(certain, (1, ((None,),) * 8), (((), 0),)), ())
        self.assertEqual(self.ask(certain, (1, ((None,),) * 7 + ((9999,),)), (((), 0),))[6], (6, 0, 9999))

    def test_values_are_not_blanks(self):
        self.assertEqual(self.ask(certain, (2, ((1, 2), (1, 2))), (((0,), 1),)), ())
        self.assertEqual(self.ask(certain, (4, ()), ()), ())

    def test_wrong_arguments(self):
        self.refuses_tables_then_rules(certain, ())
        self.refused(NoFilling, certain, CLASH, (((0,), 1),))
        self.refused(NoFilling, certain, (1, ((0,), (None,), (1,))), (((), 0),))

    def test_writing_a_certain_value(self):
        walk = Walk(23)
        for turn in range(150):
            table = walk.table(3, 2 + walk.number(7), range(4), 9)
            rules = walk.rules(3)
            if verdict(table, rules)[0] == "filling":
                for row, column, value in certain(table, rules):
                    cells = [list(cells) for cells in table[1]]
                    cells[row][column] = value
                    written = (3, tuple(map(tuple, cells)))
                    self.assertEqual(general(written, rules), general(table, rules))

    def test_argument_names(self):
        self.assertEqual(certain(rules=RULES, table=TABLE), certain(TABLE, RULES))


class RelationTest(CallCase):
    def test_of_one_column(self):
        self.assertEqual(self.ask(relation, TABLE, RULES, (0, 0), (1, 0)), "always")
        self.assertEqual(self.ask(relation, TABLE, RULES, (0, 0), (2, 0)), "never")
        self.assertEqual(self.ask(relation, TABLE, (), (0, 0), (2, 0)), "sometimes")
        self.assertEqual(self.ask(relation, TABLE, RULES, (0, 1), (1, 1)), "always")
        self.assertEqual(self.ask(relation, TABLE, RULES, (2, 1), (1, 1)), "never")
        self.assertEqual(self.ask(relation, TABLE, (), (2, 1), (1, 1)), "sometimes")

    def test_blanks_of_one_column(self):
        table = (2, ((None, 1), (None, 2), (None, None)))
        self.assertEqual(self.ask(relation, table, (((0,), 1),), (0, 0), (1, 0)), "never")
        self.assertEqual(self.ask(relation, table, (((1,), 0),), (0, 0), (1, 0)), "sometimes")
        self.assertEqual(self.ask(relation, table, (((0,), 1),), (2, 0), (1, 0)), "sometimes")
        self.assertEqual(self.ask(relation, table, (((), 0),), (2, 0), (1, 0)), "always")

    def test_never_behind_several_steps(self):
        table = (3, ((None, None, 1), (None, None, 2)))
        self.assertEqual(self.ask(relation, table, RULES, (0, 0), (1, 0)), "never")
        self.assertEqual(self.ask(relation, table, RULES[:1], (0, 0), (1, 0)), "sometimes")
        self.assertEqual(self.ask(relation, table, RULES, (0, 1), (1, 1)), "never")

    def test_the_same_place_twice(self):
        for place in all_places(TABLE):
            self.assertEqual(self.ask(relation, TABLE, RULES, place, place), "always")

    def test_of_two_columns(self):
        table = (2, ((1, 1), (2, None), (None, 1)))
        self.assertEqual(self.ask(relation, table, (), (0, 0), (0, 1)), "always")
        self.assertEqual(self.ask(relation, table, (), (1, 0), (0, 1)), "never")
        self.assertEqual(self.ask(relation, table, (), (0, 0), (1, 1)), "sometimes")
        # Row 1 cannot have 1 in column 1, as it would have to have 1 in column 0 then.
        self.assertEqual(self.ask(relation, table, (((1,), 0),), (0, 0), (1, 1)), "never")
        self.assertEqual(self.ask(relation, table, (((1,), 0),), (1, 1), (0, 0)), "never")
        self.assertEqual(self.ask(relation, table, (((1,), 0),), (1, 1), (1, 0)), "sometimes")
        self.assertEqual(self.ask(relation, table, (((1,), 0),), (2, 0), (0, 1)), "always")

    def test_two_blanks_of_two_columns(self):
        table = (2, ((None, None), (1, 2)))
        for rules in ((), BOTH, BOTH[:1]):
            self.assertEqual(self.ask(relation, table, rules, (0, 0), (0, 1)), "sometimes")
        self.assertEqual(self.ask(relation, table, (((), 0), ((), 1)), (0, 0), (0, 1)), "never")
        table = (2, ((None, None), (2, 2)))
        self.assertEqual(self.ask(relation, table, (((), 0), ((), 1)), (0, 0), (0, 1)), "always")

    def test_wrong_arguments(self):
        self.refuses_tables_then_rules(relation, ((0, 0), (0, 0)), ((9, 9), None))

    def test_argument_names(self):
        self.assertEqual(relation(other=(0, 0), place=(1, 0), rules=RULES, table=TABLE), "always")


class ChoicesTest(CallCase):
    def test_the_examples_of_the_document(self):
        self.assertEqual(self.ask(choices, TABLE, RULES, (1, 1)), ("only", 2))
        self.assertEqual(self.ask(choices, TABLE, RULES, (2, 0)), ("all but", (1,)))

    def test_only(self):
        self.assertEqual(self.ask(choices, TABLE, RULES, (0, 2)), ("only", 3))
        self.assertEqual(self.ask(choices, TABLE, RULES, (2, 2)), ("only", 5))
        self.assertEqual(self.ask(choices, (1, ((0,), (None,))), (((), 0),), (1, 0)), ("only", 0))

    def test_all_but(self):
        table = (2, ((7, 1), (3, 2), (5, 1), (None, 4), (None, None)))
        self.assertEqual(self.ask(choices, table, (((0,), 1),), (3, 0)), ("all but", (3, 5, 7)))
        self.assertEqual(self.ask(choices, table, (((0,), 1),), (4, 0)), ("all but", ()))
        self.assertEqual(self.ask(choices, table, (), (3, 0)), ("all but", ()))
        table = (2, ((7, 1), (3, None), (0, 4), (None, 4)))
        self.assertEqual(self.ask(choices, table, (((0,), 1),), (3, 0)), ("all but", (7,)))
        self.assertEqual(self.ask(choices, (1, ((None,),)), (((), 0),), (0, 0)), ("all but", ()))

    def test_wrong_arguments(self):
        self.refuses_tables_then_rules(choices, ((0, 0),), ((9, 9),), (None,))

    def test_argument_names(self):
        self.assertEqual(choices(place=(1, 1), rules=RULES, table=TABLE), ("only", 2))


class TogetherTest(CallCase):
    def test_two_blanks_of_a_row(self):
        table = (3, ((1, 2, 3), (4, 5, 6), (None, None, 7)))
        rules = (((0, 1), 2),)
        self.assertEqual(self.ask(together, table, rules, (2, 0), (2, 1)), ((1, 2), (4, 5)))
        self.assertEqual(self.ask(together, table, rules, (2, 1), (2, 0)), ((2, 1), (5, 4)))
        self.assertEqual(self.ask(together, table, (), (2, 0), (2, 1)), ())

    def test_values_that_a_cell_cannot_have_alone_are_left_out(self):
        table = (2, ((1, 5), (2, 6), (None, 5), (None, None)))
        rules = (((0,), 1),)
        self.assertEqual(self.ask(choices, table, rules, (2, 0)), ("all but", (2,)))
        self.assertEqual(self.ask(together, table, rules, (2, 0), (3, 1)), ())
        self.assertEqual(self.ask(together, table, rules, (3, 0), (3, 1)), ((1, 6), (2, 5)))

    def test_joined_blanks(self):
        table = (2, ((1, None), (1, None), (2, 5), (3, 6)))
        self.assertEqual(self.ask(together, table, (((0,), 1),), (0, 1), (1, 1)), ((5, 6), (6, 5)))
        self.assertEqual(self.ask(together, table, (), (0, 1), (1, 1)), ())

    def test_the_same_place_twice(self):
        table = (1, ((None,), (3,), (1,), (2,)))
        expected = ((1, 2), (1, 3), (2, 1), (2, 3), (3, 1), (3, 2))
        self.assertEqual(self.ask(together, table, (), (0, 0), (0, 0)), expected)
        self.assertEqual(self.ask(together, table, (), (1, 0), (1, 0)), ())

    def test_values(self):
        table = (2, ((1, 5), (2, 6), (None, 5), (None, None)))
        for place in ((0, 0), (1, 1), (2, 1)):
            for other in all_places(table):
                self.assertEqual(self.ask(together, table, (((0,), 1),), place, other), ())

    def test_wrong_arguments(self):
        self.refuses_tables_then_rules(together, ((0, 0), (0, 0)), ((9, 9), None))

    def test_argument_names(self):
        self.assertEqual(together(other=(0, 0), place=(1, 0), rules=RULES, table=TABLE), ())


class NoPlaceTest(CallCase):
    """NoPlace, then NoFilling, of all that take places."""

    def test_no_place(self):
        clash = (3, ((1, 2, 3), (1, 2, 4), (None, 0, 0)))
        for table in (TABLE, clash):
            for wrong in WRONG_PLACES + SOME_TABLES + [value for value in ANY_VALUES if value != (1, 2)]:
                self.refused(NoPlace, choices, table, RULES, wrong)
                for function in (relation, together):
                    self.refused(NoPlace, function, table, RULES, wrong, (0, 0))
                    self.refused(NoPlace, function, table, RULES, (0, 0), wrong)
                    self.refused(NoPlace, function, table, RULES, wrong, wrong)

    def test_the_edges_of_places(self):
        table = (5, ((None,) * 5,) * 8)
        for row, column in product(range(-1, 10), range(-1, 7)):
            if 0 <= row < 8 and 0 <= column < 5:
                self.assertEqual(self.ask(choices, table, (), (row, column)), ("all but", ()))
                self.assertEqual(self.ask(together, table, (), (0, 0), (row, column)), ())
            else:
                self.refused(NoPlace, choices, table, (), (row, column))
                self.refused(NoPlace, relation, table, (), (row, column), (0, 0))
                self.refused(NoPlace, together, table, (), (0, 0), (row, column))

    def test_a_table_without_rows_has_no_places(self):
        self.refused(NoPlace, choices, (2, ()), (), (0, 0))
        self.refused(NoPlace, relation, (2, ()), (), (0, 0), (0, 1))
        self.refused(NoPlace, together, (2, ()), (), (0, 0), (0, 1))

    def test_then_no_filling(self):
        for place, other in product(all_places(CLASH), repeat=2):
            self.refused(NoFilling, choices, CLASH, (((0,), 1),), place)
            self.refused(NoFilling, relation, CLASH, (((0,), 1),), place, other)
            self.refused(NoFilling, together, CLASH, (((0,), 1),), place, other)

    def test_exceptions_in_their_order(self):
        for function, right, wrong in (
            (choices, ((0, 0),), ((9, 9),)), (relation, ((0, 0),) * 2, ((0, 0), (9, 9))),
            (together, ((0, 0),) * 2, ((9, 9), (0, 0))),
        ):
            self.refused(NoTable, function, (2, list(CLASH[1])), (((0,), 2),), *wrong)
            self.refused(NoRules, function, CLASH, (((0,), 2),), *wrong)
            self.refused(NoPlace, function, CLASH, (((0,), 1),), *wrong)
            self.refused(NoFilling, function, CLASH, (((0,), 1),), *right)


class ExchangedValuesTest(CallCase):
    """[90]: different values of a column may be exchanged for others everywhere in it."""

    def test_choices_and_certain(self):
        walk = Walk(25)
        for turn in range(100):
            table = walk.table(3, 2 + walk.number(7), range(4), 9)
            rules = walk.rules(3)
            if verdict(table, rules)[0] == "filling":
                self.compare(table, rules)

    def compare(self, table, rules):
        def exchanged(column, value):
            return 100 * (column + 1) - value

        changed = (3, tuple(
            tuple(None if cell is None else exchanged(column, cell) for column, cell in enumerate(row))
            for row in table[1]
        ))
        expected = tuple((row, column, exchanged(column, value)) for row, column, value in certain(table, rules))
        self.assertEqual(certain(changed, rules), expected)
        for row, column in all_places(table):
            word, known = choices(table, rules, (row, column))
            if word == "only":
                expected = exchanged(column, known)
            else:
                expected = tuple(sorted(exchanged(column, value) for value in known))
            self.assertEqual(choices(changed, rules, (row, column)), (word, expected))


if __name__ == "__main__":
    unittest.main()
