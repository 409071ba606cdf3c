"""Fillings: [2], [12], [20], [21], [50], [90]."""

import inspect
import unittest
from itertools import product

from blankcells.errors import NoFilling, NoRules, NoTable, NoValues, TooMany
from blankcells.fillings import fillings, general, shows_verdict, verdict
from blankcells.joining import lots
from blankcells.tables import holds
from tests.checks import CallCase
from tests.samples import ANY_VALUES, SOME_TABLES, WRONG_TABLES, all_rules, small_rule_tuples
from tests.trying import (
    Walk, all_full, all_steps, blank_places, enough_values, fillings_by_trying, have_clash, pairs_behind, rules_hold,
    small_tables, values_in,
)

RULES = (((0,), 1), ((1,), 2))
TABLE = (3, ((1, 2, None), (1, None, 3), (None, 4, 5)))
CLASH = (2, ((1, 5), (1, 6), (2, 5)))


def fillings_list(table, rules, values):
    """All fillings that the generator yields."""
    return list(fillings(table, rules, values))


def first_filling(table, rules, values):
    """The first filling that the generator yields, None without one."""
    return next(fillings(table, rules, values), None)


def general_by_lots(table, rules):
    """The general filling by the lots; None if two different values are joined."""
    many, rows = table
    cells = [list(row) for row in rows]
    waiting = []
    for column, in_column in enumerate(lots(table, rules)):
        for lot in in_column:
            found = {rows[row][column] for row in lot} - {None}
            if len(found) > 1:
                return None
            if not found:
                waiting.append((lot[0], column, lot))
            for row in lot:
                cells[row][column] = found.copy().pop() if found else None
    value = 0
    for first, column, lot in sorted(waiting):
        while value in values_in(table):
            value += 1
        for row in lot:
            cells[row][column] = value
        value += 1
    return (many, tuple(map(tuple, cells)))


def walked_tables(turns, state):
    """Some larger tables with rules."""
    walk = Walk(state)
    for turn in range(turns):
        many = 1 + walk.number(5)
        amount = 1 + walk.number(8)
        yield walk.table(many, amount, range(1 + walk.number(7)), walk.number(30)), walk.rules(many, 8)


def small_cases():
    """All small tables, each with some rules."""
    for many, amount in ((1, 3), (2, 2)):
        for table in small_tables(many, amount, (None, 0, 1)):
            for rules in small_rule_tuples(many):
                yield table, rules


class GeneralTest(CallCase):
    def test_blanks_that_are_joined_with_a_value(self):
        self.assertEqual(self.ask(general, TABLE, RULES), (3, ((1, 2, 3), (1, 2, 3), (0, 4, 5))))
        self.assertEqual(self.ask(general, TABLE, RULES[::-1]), (3, ((1, 2, 3), (1, 2, 3), (0, 4, 5))))
        table = (2, ((1, None), (1, 5), (2, None)))
        self.assertEqual(self.ask(general, table, (((), 1),)), (2, ((1, 5), (1, 5), (2, 5))))

    def test_lots_without_a_value_by_row_then_by_column(self):
        self.assertEqual(self.ask(general, (2, ((None, None), (None, None))), ()), (2, ((0, 1), (2, 3))))
        self.assertEqual(self.ask(general, (2, ((7, None), (None, 7), (7, None))), ()), (2, ((7, 0), (1, 7), (7, 2))))
        table = (3, ((1, None, None), (None, 5, None), (1, None, None)))
        self.assertEqual(self.ask(general, table, (((0,), 2),)), (3, ((1, 0, 2), (3, 5, 4), (1, 6, 2))))
        self.assertEqual(self.ask(general, table, (((0,), 1),)), (3, ((1, 0, 2), (3, 5, 4), (1, 0, 6))))
        # The lot of row 0 and 2 in column 1 comes before that of row 1 in column 0.
        table = (2, ((1, None), (None, None), (1, None)))
        self.assertEqual(self.ask(general, table, (((0,), 1),)), (2, ((1, 0), (2, 3), (1, 0))))

    def test_lots_without_a_value_are_joined_by_rules(self):
        table = (2, ((None, None), (None, 3), (None, None)))
        self.assertEqual(self.ask(general, table, (((), 0),)), (2, ((0, 1), (0, 3), (0, 2))))
        self.assertEqual(self.ask(general, table, (((), 0), ((0,), 1))), (2, ((0, 3), (0, 3), (0, 3))))
        self.assertEqual(self.ask(general, (1, ((None,),) * 8), (((), 0),)), (1, ((0,),) * 8))

    def test_numbers_that_occur_anywhere_are_left_out(self):
        self.assertEqual(self.ask(general, (2, ((0, None), (None, 1), (None, 3))), ()), (2, ((0, 2), (4, 1), (5, 3))))
        table = (2, ((None, 5), (None, 4), (None, 2), (None, 1)))
        self.assertEqual(self.ask(general, table, ()), (2, ((0, 5), (3, 4), (6, 2), (7, 1))))
        self.assertEqual(self.ask(general, (1, ((9999,), (None,))), ()), (1, ((9999,), (0,))))
        table = (5, ((0, 1, 2, 3, 4), (5, 6, 7, 8, 9), (10, 11, 12, 13, None)))
        self.assertEqual(self.ask(general, table, ())[1][2], (10, 11, 12, 13, 14))

    def test_edges(self):
        for many in range(1, 6):
            self.assertEqual(self.ask(general, (many, ()), ()), (many, ()))
            self.assertEqual(self.ask(general, (many, ((None,) * many,)), ()), (many, (tuple(range(many)),)))
        all_blank = (5, ((None,) * 5,) * 8)
        expected = (5, tuple(tuple(range(row * 5, row * 5 + 5)) for row in range(8)))
        self.assertEqual(self.ask(general, all_blank, ()), expected)
        full = (2, ((0, 9999), (9999, 0)))
        self.assertEqual(self.ask(general, full, (((0,), 1),)), full)

    def test_no_filling(self):
        self.refused(NoFilling, general, CLASH, (((0,), 1),))
        self.refused(NoFilling, general, (1, ((0,), (1,))), (((), 0),))
        self.refused(NoFilling, general, (1, ((0,), (None,), (1,))), (((), 0),))
        self.refused(NoFilling, general, (2, ((1, 5), (2, None), (1, 6))), (((1,), 0), ((0,), 1)))
        # The two values are joined by a blank between them, behind several steps.
        table = (3, ((1, None, 3), (1, 2, None), (4, 2, 5)))
        self.refused(NoFilling, general, table, RULES)
        self.refused(NoFilling, general, table, RULES[::-1])
        self.refused(NoFilling, general, CLASH, (((1,), 0),))
        self.assertEqual(self.ask(general, CLASH, ()), CLASH)

    def test_by_the_lots(self):
        for table, rules in [*small_cases(), *walked_tables(400, 7)]:
            expected = general_by_lots(table, rules)
            if expected is None:
                self.refused(NoFilling, general, table, rules)
            else:
                self.assertEqual(self.ask(general, table, rules), expected)
                self.assertTrue(holds(expected, rules), (table, rules))

    def test_a_table_has_one_exactly_if_one_is_found_by_trying(self):
        for table, rules in small_cases():
            if fillings_by_trying(table, rules, enough_values(table)):
                self.assertIn(general(table, rules), all_full(table, enough_values(table)))
            else:
                self.assertRaises(NoFilling, general, table, rules)

    def test_wrong_arguments(self):
        self.refuses_tables_then_rules(general, ())

    def test_argument_names(self):
        self.assertEqual(general(rules=RULES, table=TABLE), general(TABLE, RULES))


class VerdictTest(CallCase):
    def check(self, table, rules):
        """The verdict is what the document requires; its word."""
        answer = self.ask(verdict, table, rules)
        self.assertIs(type(answer), tuple)
        word, shown = answer
        expected = general_by_lots(table, rules)
        if expected is None:
            self.assertEqual(word, "conflict")
            self.assertIs(type(shown), tuple)
            self.assertTrue(set(shown) <= set(all_steps(rules, len(table[1]))), answer)
            joined = pairs_behind(table, rules, shown)
            self.assertIsNotNone(joined, (table, rules, answer))
            self.assertTrue(have_clash(table, joined), (table, rules, answer))
        else:
            self.assertEqual(answer, ("filling", expected))
        self.told(True, shows_verdict, table, rules, answer)
        return word

    def test_filling(self):
        expected = ("filling", (3, ((1, 2, 3), (1, 2, 3), (0, 4, 5))))
        self.assertEqual(self.ask(verdict, TABLE, RULES), expected)
        self.assertEqual(self.ask(verdict, (2, ()), (((0,), 1),)), ("filling", (2, ())))

    def test_conflict(self):
        self.assertEqual(self.ask(verdict, CLASH, (((0,), 1),)), ("conflict", ((0, 0, 1),)))
        self.assertEqual(self.check(CLASH, (((1,), 0),)), "conflict")
        self.assertEqual(self.check(CLASH, (((), 0),)), "conflict")
        self.assertEqual(self.check((3, ((1, None, 3), (1, 2, None), (4, 2, 5))), RULES), "conflict")
        self.assertEqual(self.check((3, ((1, None, 3), (1, 2, None), (4, 2, 5))), RULES[::-1]), "conflict")

    def test_small_tables(self):
        words = {self.check(table, rules) for table, rules in small_cases()}
        self.assertEqual(words, {"filling", "conflict"})

    def test_larger_tables(self):
        words = [self.check(table, rules) for table, rules in walked_tables(400, 3)]
        self.assertGreater(min(words.count("filling"), words.count("conflict")), 50)

    def test_a_long_chain_of_steps(self):
        chain = (((3,), 4), ((2,), 3), ((1,), 2), ((0,), 1))
        table = (5, ((1, None, None, None, 7), (2, 3, 4, 5, 6), (1, None, None, None, 8)))
        self.assertEqual(self.ask(verdict, table, chain), ("conflict", ((3, 0, 2), (2, 0, 2), (1, 0, 2), (0, 0, 2))))

    def test_wrong_arguments(self):
        self.refuses_tables_then_rules(verdict, ())

    def test_argument_names(self):
        self.assertEqual(verdict(rules=RULES, table=TABLE), verdict(TABLE, RULES))


class ShowsVerdictTest(CallCase):
    def test_any_filling(self):
        for value in (0, 2, 3, 77, 9999):
            self.told(True, shows_verdict, TABLE, RULES, ("filling", (3, ((1, 2, 3), (1, 2, 3), (value, 4, 5)))))
        self.told(False, shows_verdict, TABLE, RULES, ("filling", (3, ((1, 2, 3), (1, 2, 3), (1, 4, 5)))))
        self.told(True, shows_verdict, TABLE, (), ("filling", (3, ((1, 2, 3), (1, 2, 3), (1, 4, 5)))))

    def test_other_tables_are_no_fillings(self):
        right = ((1, 2, 3), (1, 2, 3), (8, 4, 5))
        for shown in (
            TABLE, (3, right[:2]), (3, right + right[:1]), (3, ()), (3, right[1:] + right[:1]), (2, ()),
            (2, ((1, 2),) * 3),
            (3, ((1, 2, 3), (1, 2, 3), (8, 4, 6))), (3, ((2, 2, 3), (1, 2, 3), (8, 4, 5))),
            (3, ((1, 2, 4), (1, 2, 3), (8, 4, 5))), (3, ((1, 2, 3), (1, 2, 3), (None, 4, 5))),
            (3, ((1, 2, 3), (1, 2, 3), (10000, 4, 5))), (3, ((1, 2, 3), (1, 2, 3), (-1, 4, 5))),
            (3, ((1, 2, 3), (1, 2, 3), (False, 4, 5))), (3, ((True, 2, 3), (1, 2, 3), (8, 4, 5))),
            (3, ((1, 2, 3), (1, 2, 3), ("8", 4, 5))), (3, ((1, 2, 3), (1, 2, 3), [8, 4, 5])), (3, list(right)),
            [3, right], (3,), (3, right, right), right, (4, tuple(row + (0,) for row in right)), (True, right),
        ):
            self.told(False, shows_verdict, TABLE, RULES, ("filling", shown))
        self.told(True, shows_verdict, TABLE, RULES, ("filling", (3, right)))
        one = (1, ((None,), (1,)))
        self.told(True, shows_verdict, one, (), ("filling", (1, ((0,), (1,)))))
        self.told(False, shows_verdict, one, (), ("filling", (1, ((False,), (1,)))))
        self.told(False, shows_verdict, one, (), ("filling", (1, ((0,), (True,)))))
        self.told(False, shows_verdict, one, (), ("filling", (True, ((0,), (1,)))))

    def test_all_full_tables_of_small_ones(self):
        for table, rules in small_cases():
            for full in all_full(table, enough_values(table)[:3]):
                self.assertIs(shows_verdict(table, rules, ("filling", full)), rules_hold(full[1], rules))
                self.assertIs(shows_verdict(table, rules, ("conflict", full)), False)

    def test_any_steps(self):
        rules = (((0,), 1), ((1,), 0), ((), 0))
        cases = [CLASH, (2, ((1, None), (2, 5), (1, 6))), (2, ((1, 5), (None, 5), (2, 6))), (2, ((0, 0), (None, 1)))]
        answers = set()
        for table in cases:
            steps = all_steps(rules, len(table[1]))
            for length in range(4):
                for shown in product(steps, repeat=length):
                    joined = pairs_behind(table, rules, shown)
                    expected = joined is not None and have_clash(table, joined)
                    answers.add((expected, length))
                    self.assertIs(shows_verdict(table, rules, ("conflict", shown)), expected, (table, shown))
                    self.assertIs(shows_verdict(table, rules, ("filling", shown)), False)
        self.assertIn((True, 1), answers)
        self.assertNotIn((True, 0), answers)

    def test_steps_in_their_order(self):
        table = (3, ((1, None, 3), (1, None, 4)))
        self.told(True, shows_verdict, table, RULES, ("conflict", ((0, 0, 1), (1, 0, 1))))
        self.told(False, shows_verdict, table, RULES, ("conflict", ((1, 0, 1), (0, 0, 1))))
        self.told(False, shows_verdict, table, RULES, ("conflict", ((1, 0, 1), (0, 0, 1), (1, 0, 1))))
        self.told(False, shows_verdict, table, RULES, ("conflict", ((0, 0, 1),)))
        self.told(False, shows_verdict, table, RULES, ("conflict", ((1, 0, 1),)))
        self.told(False, shows_verdict, table, RULES, ("conflict", ()))

    def test_steps_that_join_nothing_new(self):
        rules = (((0,), 1),)
        self.told(True, shows_verdict, CLASH, rules, ("conflict", ((0, 0, 1),) * 2))
        self.told(True, shows_verdict, CLASH, rules, ("conflict", ((0, 0, 1),) * 600))
        self.told(False, shows_verdict, CLASH, rules, ("conflict", ((0, 0, 1),) * 600 + ((0, 0, 2),)))
        self.told(True, shows_verdict, (2, ((1, 5), (1, 5), (1, 6))), rules, ("conflict", ((0, 0, 1), (0, 1, 2))))
        self.told(False, shows_verdict, (2, ((1, 5), (1, 5), (1, 6))), rules, ("conflict", ((0, 0, 1),)))

    def test_what_is_no_step(self):
        rules = (((0,), 1),) * 2
        for step in [
            (0, 1, 0), (0, 0, 0), (0, 1, 1), (2, 0, 1), (-1, 0, 1), (0, 0, 3), (0, -3, 1), (0, -3, -2), (0, 0, -2),
            (False, 0, 1), (True, 0, 1), (0, False, 1), (0, 0, True), (0, 0), (0, 0, 1, 1), (), [0, 0, 1], "001",
            {0: 0, 1: 0, 2: 1}, (0, 0, "1"), (0, None, 1), (None, 0, 1), ("0", 0, 1), (0, (0,), 1), (0, 0, [1]),
            0, None, (9999999999999, 0, 1), (0, 0, 9999999999999), ((0, 0, 1),), (0, 0, NoTable()),
        ]:
            self.told(False, shows_verdict, CLASH, rules, ("conflict", (step,)))
            self.told(False, shows_verdict, CLASH, rules, ("conflict", ((0, 0, 1), step)))
            self.told(False, shows_verdict, CLASH, rules, ("conflict", (step, (0, 0, 1))))
        self.told(True, shows_verdict, CLASH, rules, ("conflict", ((0, 0, 1), (1, 0, 1))))
        self.told(False, shows_verdict, CLASH, (), ("conflict", ((0, 0, 1),)))

    def test_rows_do_not_count_from_the_end(self):
        table = (1, ((5,), (6,), (7,)))
        for row, other in product(range(-4, 5), repeat=2):
            expected = 0 <= row < other < 3
            self.told(expected, shows_verdict, table, (((), 0),), ("conflict", ((0, row, other),)))
        for number in range(-3, 4):
            self.told(number in (0, 1), shows_verdict, table, (((), 0),) * 2, ("conflict", ((number, 0, 1),)))

    def test_other_forms(self):
        full = (3, ((1, 2, 3), (1, 2, 3), (8, 4, 5)))
        steps = ((0, 0, 1),)
        for table, rules, word, shown in (
            (TABLE, RULES, "filling", full), (CLASH, (((0,), 1),), "conflict", steps),
        ):
            self.told(True, shows_verdict, table, rules, (word, shown))
            for thing in (
                [word, shown], (word,), (word, shown, shown), (shown, word), {word: shown}, word, shown,
                (word, [shown]), (word, list(shown)), (word.upper(), shown), (word + " ", shown), ("", shown),
                (None, shown), (0, shown), (True, shown), ([word], shown), ((word,), shown), (word, (shown,)),
                (word, None), (word, ""),
                ("no " + word, shown), ("exact", shown), ("table", shown),
                ("conflict" if word == "filling" else "filling", shown), (word, {}), (word, [list(shown)]),
            ):
                self.told(False, shows_verdict, table, rules, thing)

    def test_any_value(self):
        for table, rules in ((TABLE, RULES), (CLASH, (((0,), 1),)), ((1, ()), ())):
            for thing in ANY_VALUES + SOME_TABLES + WRONG_TABLES:
                self.told(False, shows_verdict, table, rules, thing)
                self.told(False, shows_verdict, table, rules, ("conflict", thing))
                self.told(False, shows_verdict, table, rules, ("conflict", (thing,)))
                # (True, ()) is equal to (1, ()), but it is no table.
                is_filling = table == (1, ()) and repr(thing) == repr(table)
                self.told(is_filling, shows_verdict, table, rules, ("filling", thing))
                self.told(False, shows_verdict, table, rules, (thing, table))
                self.told(False, shows_verdict, table, rules, (thing, ((0, 0, 1),)))
                self.told(False, shows_verdict, table, rules, (thing, thing))

    def test_without_rows(self):
        self.told(True, shows_verdict, (2, ()), (((), 0),), ("filling", (2, ())))
        self.told(False, shows_verdict, (2, ()), (((), 0),), ("filling", (1, ())))
        self.told(False, shows_verdict, (2, ()), (((), 0),), ("conflict", ()))

    def test_wrong_arguments(self):
        self.refuses_tables_then_rules(shows_verdict, (("filling", (2, ())),), (None,))

    def test_argument_names(self):
        self.assertIs(shows_verdict(thing=("filling", (2, ())), rules=(), table=(2, ())), True)


class FillingsTest(CallCase):
    def test_several(self):
        table = (2, ((1, None), (None, 3)))
        self.assertEqual(self.ask(fillings_list, table, (((0,), 1),), (1, 3)), [
            (2, ((1, 1), (3, 3))), (2, ((1, 3), (1, 3))), (2, ((1, 3), (3, 3))),
        ])
        self.assertEqual(self.ask(fillings_list, table, (), (2, 4)), [
            (2, ((1, 2), (2, 3))), (2, ((1, 2), (4, 3))), (2, ((1, 4), (2, 3))), (2, ((1, 4), (4, 3))),
        ])

    def test_one(self):
        self.assertEqual(self.ask(fillings_list, TABLE, RULES, (2, 3)), [
            (3, ((1, 2, 3), (1, 2, 3), (2, 4, 5))), (3, ((1, 2, 3), (1, 2, 3), (3, 4, 5))),
        ])
        self.assertEqual(self.ask(fillings_list, (2, ((1, None), (1, 7))), (((0,), 1),), (6, 7, 8)), [
            (2, ((1, 7), (1, 7))),
        ])

    def test_none(self):
        # The table has fillings, but none with these values.
        self.assertEqual(self.ask(fillings_list, TABLE, RULES, (1, 2)), [])
        self.assertEqual(self.ask(fillings_list, TABLE, RULES, (6, 7, 8, 9)), [])
        self.assertEqual(self.ask(fillings_list, CLASH, (((0,), 1),), (5, 6)), [])

    def test_without_blanks(self):
        for values in ((0,), (0, 1, 2, 9999)):
            self.assertEqual(self.ask(fillings_list, CLASH, (), values), [CLASH])
            self.assertEqual(self.ask(fillings_list, (3, ()), RULES, values), [(3, ())])

    def test_the_edges_of_values(self):
        table = (1, ((None,), (None,)))
        expected = [(1, ((0,), (0,))), (1, ((9999,), (9999,)))]
        self.assertEqual(self.ask(fillings_list, table, (((), 0),), (0, 9999)), expected)
        self.assertEqual(self.ask(fillings_list, (1, ((None,),)), (), (0, 1, 2, 3)), [(1, ((k,),)) for k in range(4)])

    def test_six_blanks(self):
        table = (1, ((None,),) * 6 + ((0,),) * 2)
        found = self.ask(fillings_list, table, (), (0, 1, 5, 9))
        self.assertEqual(found, all_full(table, (0, 1, 5, 9)))
        self.assertEqual(len(found), 4096)
        self.assertEqual(self.ask(fillings_list, table, (((), 0),), (0, 1, 5, 9)), [(1, ((0,),) * 8)])

    def test_by_trying(self):
        for table, rules in small_cases():
            for values in ((0,), (0, 1), (1, 2, 9999)):
                found = fillings_list(table, rules, values)
                self.assertEqual(found, sorted(fillings_by_trying(table, rules, values)), (table, rules))

    def test_larger_ones_by_trying(self):
        walk = Walk(11)
        sizes = set()
        for turn in range(200):
            many = 1 + walk.number(5)
            table = walk.table(many, 1 + walk.number(8), range(1 + walk.number(6)), walk.number(6))
            rules = walk.rules(many, 3)
            values = ((0,), (1, 2), (0, 3, 9), (0, 1, 2, 7))[walk.number(4)]
            found = self.ask(fillings_list, table, rules, values)
            sizes.add(min(len(found), 2))
            self.assertEqual(found, sorted(fillings_by_trying(table, rules, values)))
            for full in found:
                self.assertTrue(shows_verdict(table, rules, ("filling", full)))
        self.assertEqual(sizes, {0, 1, 2})

    def test_a_generator(self):
        self.assertTrue(inspect.isgenerator(fillings(TABLE, RULES, (2,))))
        first = fillings(TABLE, RULES, (2, 3))
        second = fillings(TABLE, RULES, (2, 3))
        self.assertEqual(next(first), next(second))
        self.assertEqual(len(list(first)), 1)
        self.assertEqual(len(list(second)), 1)

    def test_wrong_tables_and_rules(self):
        self.refuses_tables_then_rules(first_filling, ((1, 2),), (None,), ([],))

    def test_no_values(self):
        wrong = [
            (), (0, 1, 2, 3, 4), tuple(range(9)), (1, 0), (0, 0), (1, 1, 2), (0, 2, 1), (-1,), (-1, 0), (10000,),
            (0, 10000), (True,), (False,), (0, True), (False, 1), [0], [0, 1], [], {0: 1}, {}, "0", "", 0, 1, None,
            True, ((0,),), (None,), (0, None), ("0",), (0, "1"), ((), 0), (9999999999999,), ([0],), (0, [1]),
            (NoValues(),),
        ]
        seven = (1, ((None,),) * 7)
        for values in wrong + SOME_TABLES:
            for table, rules in ((TABLE, RULES), (CLASH, ()), ((1, ()), ()), (seven, (((), 0),))):
                self.refused(NoValues, first_filling, table, rules, values)
        for values in ANY_VALUES:
            if values not in ((1,), (1, 2), (1, 2, 3)):
                self.refused(NoValues, first_filling, TABLE, RULES, values)

    def test_too_many(self):
        for blank in range(9):
            table = (1, ((None,),) * blank + ((0,),) * (8 - blank))
            if blank <= 6:
                self.assertEqual(len(fillings_list(table, (), (4, 5))), 1 << blank)
            else:
                self.refused(TooMany, first_filling, table, (), (4, 5))
        for table, amount in (((5, ((None,) * 5,) * 8), 40), ((5, ((None,) * 5, (None, None, 1, 2, 3))), 7)):
            for rules in ((), (((), 0), ((0,), 1))):
                with self.assertRaises(TooMany) as caught:
                    first_filling(table, rules, (0,))
                self.assertEqual((caught.exception.amount, caught.exception.limit), (amount, 6))

    def test_too_many_also_without_a_filling(self):
        table = (2, ((1, 2), (1, 3), (None, None), (None, None), (None, None), (None, 5)))
        self.refused(TooMany, first_filling, table, (((0,), 1),), (0,))
        self.assertEqual(self.ask(fillings_list, (2, table[1][:5]), (((0,), 1),), (0,)), [])

    def test_exceptions_in_their_order(self):
        seven = (2, ((None, None),) * 3 + ((None, 1),))
        self.refused(NoTable, first_filling, (2, ((None, None),) * 9), (((0,), 2),), ())
        self.refused(NoRules, first_filling, seven, (((0,), 2),), ())
        self.refused(NoValues, first_filling, seven, (((0,), 1),), ())
        self.refused(TooMany, first_filling, seven, (((0,), 1),), (1,))

    def test_argument_names(self):
        self.assertEqual(list(fillings(values=(2,), rules=RULES, table=TABLE)), [])


class WhatHoldsTest(CallCase):
    """[90], for the fillings and the verdict."""

    def cases(self):
        """Tables with a filling, and their rules."""
        for table, rules in [*small_cases(), *walked_tables(150, 5)]:
            if verdict(table, rules)[0] == "filling":
                yield table, rules

    def test_fewer_rows_and_fewer_rules(self):
        for table, rules in self.cases():
            many, rows = table
            full = general(table, rules)
            for number in range(len(rows)):
                fewer = (many, rows[:number] + rows[number + 1:])
                fewer_full = (many, full[1][:number] + full[1][number + 1:])
                self.assertEqual(verdict(fewer, rules)[0], "filling")
                self.assertTrue(shows_verdict(fewer, rules, ("filling", fewer_full)))
            for number in range(len(rules)):
                fewer = rules[:number] + rules[number + 1:]
                self.assertEqual(verdict(table, fewer)[0], "filling")
                self.assertTrue(shows_verdict(table, fewer, ("filling", full)))

    def test_writing_a_value_of_a_filling(self):
        for table, rules in self.cases():
            full = general(table, rules)
            for row, column in blank_places(table):
                cells = [list(cells) for cells in table[1]]
                cells[row][column] = full[1][row][column]
                written = (table[0], tuple(map(tuple, cells)))
                self.assertTrue(shows_verdict(written, rules, ("filling", full)))
                self.assertEqual(verdict(written, rules)[0], "filling")

    def test_full_tables(self):
        for full in small_tables(2, 3, (0, 1)):
            for rules in small_rule_tuples(2):
                self.assertEqual(verdict(full, rules)[0] == "filling", holds(full, rules))
                if holds(full, rules):
                    self.assertEqual(general(full, rules), full)

    def test_values_of_a_column_exchanged(self):
        for table, rules in walked_tables(150, 9):
            for column in range(table[0]):
                rows = [list(row) for row in table[1]]
                for row in rows:
                    row[column] = None if row[column] is None else 9999 - 7 * row[column]
                changed = (table[0], tuple(map(tuple, rows)))
                self.assertEqual(verdict(changed, rules)[0], verdict(table, rules)[0])
                if verdict(table, rules)[0] == "conflict":
                    self.assertTrue(shows_verdict(changed, rules, verdict(table, rules)))


if __name__ == "__main__":
    unittest.main()
