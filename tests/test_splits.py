"""Tables cut and put together: [2], [70], [71]."""

import unittest
from itertools import combinations, product

from blankcells.errors import NoFull, NoMany, NoParts, NoRules, NoTable
from blankcells.splits import rejoined, shows_split, small, split
from blankcells.tables import holds, is_table
from tests.checks import CallCase
from tests.samples import (
    ANY_VALUES, SOME_TABLES, WRONG_MANY, WRONG_PARTS, WRONG_RULES, WRONG_TABLES, all_parts, all_rules,
    small_rule_tuples,
)
from tests.trying import Walk, all_steps, pairs_behind, rejoined_by_trying, rules_hold, small_tables

RULES = (((0,), 1), ((1,), 2))
PARTS = ((0, 1), (0, 2))


class RejoinedTest(CallCase):
    def test_two_parts(self):
        table = (3, ((1, 2, 3), (1, 4, 5), (6, 4, 3)))
        expected = ((1, 2, 3), (1, 2, 5), (1, 4, 3), (1, 4, 5), (6, 4, 3))
        self.assertEqual(self.ask(rejoined, table, PARTS), expected)
        self.assertEqual(self.ask(rejoined, table, PARTS[::-1]), expected)
        self.assertEqual(self.ask(rejoined, table, ((0, 1), (1, 2))), (
            (1, 2, 3), (1, 4, 3), (1, 4, 5), (6, 4, 3), (6, 4, 5),
        ))

    def test_the_rows_of_the_table_once_and_ascending(self):
        table = (2, ((3, 1), (1, 2), (3, 1), (1, 0)))
        self.assertEqual(self.ask(rejoined, table, ((0, 1),)), ((1, 0), (1, 2), (3, 1)))
        self.assertEqual(self.ask(rejoined, table, ((0,), (0, 1))), ((1, 0), (1, 2), (3, 1)))
        self.assertEqual(self.ask(rejoined, table, ((0,), (1,))), ((1, 0), (1, 1), (1, 2), (3, 0), (3, 1), (3, 2)))

    def test_ascending_also_with_large_values(self):
        table = (2, ((9999, 64), (8, 9), (1000, 8), (16, 5000)))
        expected = tuple(product((8, 16, 1000, 9999), (8, 9, 64, 5000)))
        self.assertEqual(self.ask(rejoined, table, ((0,), (1,))), expected)
        self.assertEqual(self.ask(rejoined, table, ((0, 1),)), tuple(sorted(table[1])))

    def test_parts_that_need_a_third_one(self):
        table = (3, ((0, 0, 1), (0, 1, 0), (1, 0, 0)))
        self.assertEqual(self.ask(rejoined, table, ((0, 1), (1, 2), (0, 2))), (
            (0, 0, 0), (0, 0, 1), (0, 1, 0), (1, 0, 0),
        ))

    def test_edges(self):
        for many in range(1, 6):
            whole = (tuple(range(many)),)
            self.assertEqual(self.ask(rejoined, (many, ()), whole), ())
            self.assertEqual(self.ask(rejoined, (many, ()), tuple((column,) for column in range(many))), ())
            self.assertEqual(self.ask(rejoined, (many, ((9999,) * many,) * 8), whole * 5), ((9999,) * many,))
        table = (5, tuple((row,) * 5 for row in range(8)))
        single = tuple((column,) for column in range(5))
        self.assertEqual(self.ask(rejoined, table, single), tuple(product(range(8), repeat=5)))
        self.assertEqual(self.ask(rejoined, table, ((0, 4), (1, 4), (2, 4), (3, 4))), table[1])

    def test_all_small_tables_by_trying(self):
        for many, amount, most in ((1, 3, 3), (2, 3, 3), (3, 2, 3), (3, 3, 2)):
            choice = all_parts(many, most)
            for number, table in enumerate(small_tables(many, amount, (0, 1))):
                for parts in choice if many < 3 else choice[number % 7::7]:
                    found = rejoined(table, parts)
                    self.assertEqual(found, rejoined_by_trying(table, parts), (table, parts))
                    self.assertLessEqual(set(table[1]), set(found))

    def test_larger_tables_by_trying(self):
        walk = Walk(31)
        for turn in range(150):
            many = 1 + walk.number(5)
            table = walk.full_table(many, walk.number(9), range(1 + walk.number(4)))
            parts = walk.parts(many)
            self.assertEqual(self.ask(rejoined, table, parts), rejoined_by_trying(table, parts))

    def test_no_table_first(self):
        for table in WRONG_TABLES + ANY_VALUES:
            self.refused(NoTable, rejoined, table, ((0, 1),))
            self.refused(NoTable, rejoined, table, None)
        self.refused(NoTable, rejoined, (2, ((None, 1),) * 9), ((0, 1),))

    def test_then_no_full(self):
        for table in ((2, ((1, None),)), (2, ((1, 2), (1, 2), (None, 2))), (2, ((None, None),) * 8)):
            for parts in (((0, 1),), ((0,),), (), None, [(0, 1)]):
                self.refused(NoFull, rejoined, table, parts)

    def test_then_no_parts(self):
        for many, parts in WRONG_PARTS:
            self.refused(NoParts, rejoined, (many, ((0,) * many,)), parts)
            self.refused(NoParts, rejoined, (many, ()), parts)
        for parts in ANY_VALUES + SOME_TABLES:
            self.refused(NoParts, rejoined, (2, ((1, 2), (3, 4))), parts)

    def test_argument_names(self):
        self.assertEqual(rejoined(parts=((0,),), table=(1, ((3,),))), ((3,),))


class SmallTest(CallCase):
    def test_the_example_of_the_document(self):
        self.assertEqual(self.ask(small, 3, PARTS), (3, ((0, 0, None), (0, None, 0))))

    def test_rows_in_the_order_of_the_parts(self):
        self.assertEqual(self.ask(small, 3, PARTS[::-1]), (3, ((0, None, 0), (0, 0, None))))
        self.assertEqual(self.ask(small, 2, ((1,), (0, 1), (0,), (1,))), (2, ((None, 0), (0, 0), (0, None), (None, 0))))
        self.assertEqual(self.ask(small, 1, ((0,),) * 5), (1, ((0,),) * 5))

    def test_all_parts(self):
        for many in range(1, 4):
            for parts in all_parts(many, 3):
                table = small(many, parts)
                self.assertTrue(is_table(table))
                self.assertEqual(table[0], many)
                self.assertEqual(len(table[1]), len(parts))
                for part, row in zip(parts, table[1]):
                    self.assertEqual(row, tuple(0 if column in part else None for column in range(many)))

    def test_five_columns(self):
        single = tuple((column,) for column in range(5))
        expected = tuple(tuple(0 if row == column else None for column in range(5)) for row in range(5))
        self.assertEqual(self.ask(small, 5, single), (5, expected))

    def test_wrong_arguments(self):
        for many in WRONG_MANY:
            for parts in (((0, 1),), (), None):
                self.refused(NoMany, small, many, parts)
        for many in ANY_VALUES:
            if many is True or many != 1:
                self.refused(NoMany, small, many, ((0,),))
        for many, parts in WRONG_PARTS:
            self.refused(NoParts, small, many, parts)
        for parts in ANY_VALUES + SOME_TABLES:
            self.refused(NoParts, small, 2, parts)

    def test_argument_names(self):
        self.assertEqual(small(parts=((0,),), many=1), (1, ((0,),)))


def zero_row_behind(many, rules, parts, steps):
    """Whether steps are possible in the small table, and some row is joined with 0 in every column behind them."""
    table = small(many, parts)
    joined = pairs_behind(table, rules, steps)
    return joined is not None and any(
        all(
            any((column, row, other) in joined and table[1][other][column] == 0 for other in range(len(parts)))
            for column in range(many)
        )
        for row in range(len(parts))
    )


def shows_table(rules, parts, table):
    """Whether rules hold in a full table and another row can be put together of it, by trying."""
    return rules_hold(table[1], rules) and set(rejoined_by_trying(table, parts)) != set(table[1])


class SplitTest(CallCase):
    def check(self, many, rules, parts):
        """The answer is what the document requires; its word."""
        answer = self.ask(split, many, rules, parts)
        self.assertIs(type(answer), tuple)
        word, shown = answer
        if word == "exact":
            self.assertIs(type(shown), tuple)
            self.assertLessEqual(set(shown), set(all_steps(rules, len(parts))))
            self.assertTrue(zero_row_behind(many, rules, parts, shown), (many, rules, parts, answer))
        else:
            self.assertEqual(word, "table")
            self.assertTrue(is_table(shown))
            self.assertEqual(shown[0], many)
            self.assertTrue(holds(shown, rules), (many, rules, parts, answer))
            self.assertTrue(shows_table(rules, parts, shown), (many, rules, parts, answer))
        self.told(True, shows_split, many, rules, parts, answer)
        return word

    def test_the_example_of_the_document(self):
        self.assertEqual(self.ask(split, 3, (((0,), 2),), PARTS), ("exact", ((0, 0, 1),)))

    def test_exact(self):
        self.assertEqual(self.check(3, (((0,), 1),), PARTS), "exact")
        self.assertEqual(self.check(3, (((0,), 1), ((0,), 2)), PARTS), "exact")
        self.assertEqual(self.check(2, (((), 0),), ((0,), (1,))), "exact")
        # The second rule is possible behind the first one only.
        self.assertEqual(self.check(4, (((0,), 1), ((1,), 2)), ((0, 1), (0, 2, 3))), "exact")
        self.assertEqual(self.check(4, (((1,), 2), ((0,), 1)), ((0, 1, 3), (0, 2))), "exact")
        chain = (((3,), 4), ((2,), 3), ((1,), 2), ((0,), 1))
        self.assertEqual(self.check(5, chain, ((0, 1), (1, 2), (2, 3), (3, 4))), "exact")

    def test_a_part_with_all_columns(self):
        for many in range(1, 6):
            whole = tuple(range(many))
            for parts in ((whole,), (whole,) * 5, ((0,), whole), (whole, (0,))):
                self.assertEqual(self.ask(split, many, (), parts), ("exact", ()))
                self.assertEqual(self.check(many, tuple(all_rules(many)[:8]), parts), "exact")

    def test_table(self):
        self.assertEqual(self.check(3, (), PARTS), "table")
        self.assertEqual(self.check(3, (((1,), 0), ((2,), 0)), PARTS), "table")
        self.assertEqual(self.check(3, (((1, 2), 0),), PARTS), "table")
        self.assertEqual(self.check(2, (((0,), 1), ((1,), 0)), ((0,), (1,))), "table")
        self.assertEqual(self.check(5, (), tuple((column,) for column in range(5))), "table")

    def test_exact_by_full_tables(self):
        # Where it is exact, no small table shows the contrary.
        tables = [(3, rows) for amount in range(4) for rows in combinations(product((0, 1), repeat=3), amount)]
        words = set()
        for parts in (PARTS, ((0,), (1, 2)), ((0,), (1,), (2,)), ((0, 1), (1, 2), (0, 2)), ((1, 2), (0, 1))):
            for rules in small_rule_tuples(3)[::3]:
                word = self.check(3, rules, parts)
                words.add(word)
                if word == "exact":
                    for table in tables:
                        self.assertFalse(shows_table(rules, parts, table), (rules, parts, table))
        self.assertEqual(words, {"exact", "table"})

    def test_two_columns(self):
        for rules in small_rule_tuples(2):
            for parts in all_parts(2, 3):
                exact = (0, 1) in parts or ((), 0) in rules or ((), 1) in rules
                self.assertEqual(self.check(2, rules, parts), "exact" if exact else "table")

    def test_larger_ones(self):
        walk = Walk(33)
        words = []
        for turn in range(300):
            many = 3 + walk.number(3)
            words.append(self.check(many, walk.rules(many, 8), walk.parts(many)))
        self.assertGreater(min(words.count("exact"), words.count("table")), 40)

    def test_argument_names(self):
        self.assertEqual(split(parts=((0,),), rules=(), many=1), ("exact", ()))


class ShowsSplitTest(CallCase):
    def test_any_steps(self):
        rules = (((0,), 1), ((1,), 2), ((), 1))
        answers = set()
        for parts in (PARTS, ((0,), (1,), (2,)), ((0, 1), (1, 2)), ((2,), (0, 1))):
            for length in range(3 if len(parts) == 3 else 4):
                for shown in product(all_steps(rules, len(parts)), repeat=length):
                    expected = zero_row_behind(3, rules, parts, shown)
                    answers.add((expected, length))
                    self.assertIs(shows_split(3, rules, parts, ("exact", shown)), expected, (parts, shown))
                    self.assertIs(shows_split(3, rules, parts, ("table", shown)), False)
        self.assertIn((True, 1), answers)
        self.assertNotIn((True, 0), answers)

    def test_steps_that_join_nothing_new(self):
        rules = (((0,), 2),)
        self.told(True, shows_split, 3, rules, PARTS, ("exact", ((0, 0, 1),)))
        self.told(True, shows_split, 3, rules, PARTS, ("exact", ((0, 0, 1),) * 600))
        self.told(False, shows_split, 3, rules, PARTS, ("exact", ()))
        self.told(True, shows_split, 3, rules, ((0, 1, 2),) * 2, ("exact", ((0, 0, 1),)))
        self.told(True, shows_split, 3, rules, ((0, 1, 2),) * 2, ("exact", ()))

    def test_any_table(self):
        rules = (((0,), 1),)
        for parts in (((0,), (1, 2)), PARTS):
            for rows in product(product((0, 1), repeat=3), repeat=3):
                expected = shows_table(rules, parts, (3, rows))
                self.assertIs(shows_split(3, rules, parts, ("table", (3, rows))), expected, (parts, rows))
                self.assertIs(shows_split(3, rules, parts, ("exact", (3, rows))), False)
        self.told(True, shows_split, 3, (), PARTS, ("table", (3, ((7, 1, 9999), (7, 2, 0)))))
        self.told(True, shows_split, 3, (), PARTS, ("table", (3, ((7, 1, 9999), (7, 2, 0)) * 4)))

    def test_other_tables(self):
        right = ((0, 0, 1), (0, 2, 0))
        for shown in (
            small(3, PARTS), (3, right[:1]), (3, ()), (3, right * 5), (3, ((0, 0, 1), (0, 2, None))), [3, right],
            (3, list(right)), (3, ([0, 0, 1], (0, 2, 0))), (3, ((False, 0, 1), (0, 2, 0))),
            (3, ((0, 0, True), (0, 2, 0))),
            (3, ((0, 0, 1), (0, 2, -1))), (3, ((0, 0, 10000), (0, 2, 0))), (True, ((0,), (1,))), (2, ((0, 0), (1, 1))),
            (4, ((0, 0, 1, 0), (0, 2, 0, 0))), right, (3,), (3, right, right), (3, ((0, 0, "1"), (0, 2, 0))),
            (3, right + ((0, 0, 0), (0, 2, 1))),
        ):
            self.told(False, shows_split, 3, (), PARTS, ("table", shown))
        self.told(True, shows_split, 3, (), PARTS, ("table", (3, right)))
        self.told(False, shows_split, 3, (((0,), 1),), PARTS, ("table", (3, right)))

    def test_what_is_no_step(self):
        rules = (((0,), 2),) * 2
        for step in [
            (0, 1, 0), (0, 0, 0), (0, 1, 1), (2, 0, 1), (-1, 0, 1), (0, 0, 2), (0, -2, 1), (0, -2, -1), (0, 0, -1),
            (False, 0, 1), (True, 0, 1), (0, False, 1), (0, 0, True), (0, 0), (0, 0, 1, 1), (), [0, 0, 1], "001",
            (0, 0, "1"), (0, None, 1), (None, 0, 1), 0, None, (9999999999999, 0, 1), ((0, 0, 1),), {0: 0}, NoParts(),
        ]:
            self.told(False, shows_split, 3, rules, PARTS, ("exact", (step,)))
            self.told(False, shows_split, 3, rules, PARTS, ("exact", ((0, 0, 1), step)))
            self.told(False, shows_split, 3, rules, PARTS, ("exact", (step, (0, 0, 1))))
            self.told(False, shows_split, 3, rules, ((0, 1, 2),) * 2, ("exact", (step,)))
        self.told(True, shows_split, 3, rules, PARTS, ("exact", ((0, 0, 1), (1, 0, 1))))
        self.told(False, shows_split, 3, (), PARTS, ("exact", ((0, 0, 1),)))

    def test_other_forms(self):
        for rules, word, shown in (
            ((((0,), 2),), "exact", ((0, 0, 1),)), ((), "table", (3, ((0, 0, 1), (0, 2, 0)))),
        ):
            self.told(True, shows_split, 3, rules, PARTS, (word, shown))
            for thing in (
                [word, shown], (word,), (word, shown, shown), (shown, word), {word: shown}, word, shown,
                (word, [shown]), (word, list(shown)), (word.upper(), shown), (word + " ", shown), ("", shown),
                (None, shown), (0, shown),
                (True, shown), ([word], shown), ((word,), shown), (word, (shown,)), (word, None), (word, ""),
                ("filling", shown), ("conflict", shown), ("table" if word == "exact" else "exact", shown),
            ):
                self.told(False, shows_split, 3, rules, PARTS, thing)

    def test_any_value(self):
        for rules, parts in (((), PARTS), ((((0,), 2),), PARTS), (RULES, ((0, 1, 2),))):
            for thing in ANY_VALUES + SOME_TABLES + WRONG_TABLES:
                self.told(False, shows_split, 3, rules, parts, thing)
                self.told(thing == () and len(parts) == 1, shows_split, 3, rules, parts, ("exact", thing))
                self.told(False, shows_split, 3, rules, parts, ("exact", (thing,)))
                self.told(False, shows_split, 3, rules, parts, ("table", thing))
                self.told(False, shows_split, 3, rules, parts, (thing, ()))
                self.told(False, shows_split, 3, rules, parts, (thing, (3, ((0, 0, 1), (0, 2, 0)))))

    def test_argument_names(self):
        self.assertIs(shows_split(thing=("exact", ()), parts=((0,),), rules=(), many=1), True)


class SplitWrongArgumentsTest(CallCase):
    """NoMany, then NoRules, then NoParts, of split and of shows_split."""

    def both(self, error, many, rules, parts):
        self.refused(error, split, many, rules, parts)
        self.refused(error, shows_split, many, rules, parts, ("exact", ()))
        self.refused(error, shows_split, many, rules, parts, None)

    def test_no_many_first(self):
        for many in WRONG_MANY:
            for rules, parts in ((RULES, PARTS), (None, PARTS), ((), ()), (None, None)):
                self.both(NoMany, many, rules, parts)
        for many in ANY_VALUES:
            if many is True or many != 1:
                self.both(NoMany, many, (), ((0,),))

    def test_then_no_rules(self):
        for many, rule in WRONG_RULES:
            self.both(NoRules, many, (rule,), (tuple(range(many)),))
            self.both(NoRules, many, (((), 0), rule), None)
        for rules in ANY_VALUES + SOME_TABLES + [(((0,), 1),) * 9, [((0,), 1)], (((0,), 3),), ((0,), 1)]:
            if rules != ():
                self.both(NoRules, 3, rules, PARTS)
                self.both(NoRules, 3, rules, ())

    def test_then_no_parts(self):
        for many, parts in WRONG_PARTS:
            self.both(NoParts, many, (), parts)
            self.both(NoParts, many, (((), 0),), parts)
        for parts in ANY_VALUES + SOME_TABLES:
            self.both(NoParts, 2, (((0,), 1),), parts)


if __name__ == "__main__":
    unittest.main()
