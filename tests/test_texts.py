"""The texts of tables and of rules: [2], [88]."""

import unittest
from itertools import product

from blankcells.errors import NoMany, NoRules, NoTable, NoText
from blankcells.tables import is_table
from blankcells.texts import read_rules, read_table, rules_text, table_text
from tests.checks import CallCase
from tests.samples import (
    ANY_VALUES, SOME_TABLES, WRONG_MANY, WRONG_RULES, WRONG_TABLES, all_rules, small_rule_tuples,
)
from tests.trying import Walk, small_tables

TABLE_TEXTS = [
    ((1, ()), "columns 1\n"),
    ((5, ()), "columns 5\n"),
    ((1, ((0,),)), "columns 1\n0\n"),
    ((1, ((None,),)), "columns 1\n-\n"),
    ((2, ((1, None), (9999, 10))), "columns 2\n1 -\n9999 10\n"),
    ((3, ((1, 2, None), (1, None, 3), (None, 4, 5))), "columns 3\n1 2 -\n1 - 3\n- 4 5\n"),
    ((2, ((7, 7), (7, 7))), "columns 2\n7 7\n7 7\n"),
    ((5, ((9999,) * 5,) * 8), "columns 5\n" + "9999 9999 9999 9999 9999\n" * 8),
    ((5, ((None,) * 5,) * 8), "columns 5\n" + "- - - - -\n" * 8),
]

RULES_TEXTS = [
    (1, (), "columns 1\n"),
    (5, (), "columns 5\n"),
    (3, (((0, 1), 2), ((), 0)), "columns 3\n0 1 > 2\n> 0\n"),
    (1, (((), 0),), "columns 1\n> 0\n"),
    (2, (((1,), 0), ((0,), 1), ((1,), 0)), "columns 2\n1 > 0\n0 > 1\n1 > 0\n"),
    (5, (((0, 1, 2, 3), 4),) * 8, "columns 5\n" + "0 1 2 3 > 4\n" * 8),
    (5, (((), 4),) * 8, "columns 5\n" + "> 4\n" * 8),
]

# None of these is the text of a table or of rules.
WRONG_HEADS = [
    "", "\n", "\n\n", "columns", "columns\n", "columns \n", "columns 2", " columns 2\n", "columns 2 \n", "columns  2\n",
    "Columns 2\n", "COLUMNS 2\n", "column 2\n", "columns 0\n", "columns 6\n", "columns 9\n", "columns 10\n",
    "columns -1\n", "columns +2\n", "columns 02\n", "columns 002\n", "columns 2.\n", "columns 2.0\n", "columns two\n",
    "columns -\n", "columns 2 2\n", "columns2\n", "columns\n2\n", "columns 2\n\n", "\ncolumns 2\n", "columns 2\r\n",
    "columns\t2\n", "columns 2\ncolumns 2\n", "2\n", "2", "columns: 2\n", "columns 1_\n", "columns 1e0\n",
    "columns \u0662\n", "columns \u00b2\n", "columns 2\u2028", "columns 2\x0b", "columns " + "2" * 500 + "\n",
    "columns " + "0" * 500 + "2\n", "columns 2\n" * 60,
]


class TableTextTest(CallCase):
    def test_texts(self):
        for table, text in TABLE_TEXTS:
            self.assertEqual(self.ask(table_text, table), text)
            self.assertEqual(self.ask(read_table, text), table)

    def test_small_tables_there_and_back(self):
        for table in [*small_tables(2, 2, (None, 0, 9999, 10)), *small_tables(1, 3, (None, 0, 5)), *SOME_TABLES]:
            self.assertEqual(read_table(table_text(table)), table)

    def test_larger_tables_there_and_back(self):
        walk = Walk(61)
        for turn in range(100):
            table = walk.table(1 + walk.number(5), 1 + walk.number(8), (0, 3, 10, 99, 100, 500, 1000, 9999), 9)
            self.assertEqual(self.ask(read_table, self.ask(table_text, table)), table)

    def test_no_table(self):
        for table in WRONG_TABLES + ANY_VALUES:
            self.refused(NoTable, table_text, table)

    def test_all_short_texts(self):
        # Each text is the one of a table or of nothing: what is read has this very text.
        found = 0
        for length in range(6):
            for signs in product("019- \n", repeat=length):
                text = "columns 2\n" + "".join(signs)
                try:
                    table = read_table(text)
                except NoText:
                    continue
                found += 1
                self.assertTrue(is_table(table))
                self.assertEqual(table_text(table), text)
        # The texts of no row, and of one row with one cell each, or with a cell of two digits.
        self.assertEqual(found, 1 + 16 + 2 * 4 * 6)

    def test_argument_names(self):
        self.assertEqual(table_text(table=(1, ())), "columns 1\n")
        self.assertEqual(read_table(text="columns 1\n"), (1, ()))


class ReadTableTest(CallCase):
    def test_wrong_heads(self):
        for text in WRONG_HEADS:
            self.refused(NoText, read_table, text)
            self.refused(NoText, read_table, text + "1 2\n")

    def test_wrong_rows(self):
        for line in (
            "", " ", "1", "1 2 3", " 1 2", "1 2 ", "1  2", "1\t2", "1,2", "1 2\r", "- -1", "-- 1", "1 --", "1 -0",
            "01 2", "1 02", "00 1", "1 00", "1 10000", "10000 1", "1 99999", "+1 2", "1 +2", "1 2.0", "1 None", "1 _",
            "1 x",
            "1 0x1", "1 1_0", "1 2e1", "- ", " -", "-", "1-", "> 1", "0 > 1", "1 '2'", "1 (2)", "1 \u0662", "1 \u00b2",
            "1 " + "9" * 500, "1 " + "0" * 500 + "2", "1 2 " * 100, "1\n2", "\n1 2", "1 2\n", "1 \u20032",
        ):
            self.refused(NoText, read_table, f"columns 2\n{line}\n")
            self.refused(NoText, read_table, f"columns 2\n1 2\n{line}\n")
            self.refused(NoText, read_table, f"columns 2\n{line}\n- -\n")

    def test_the_line_feed_at_the_end(self):
        for table, text in TABLE_TEXTS:
            self.refused(NoText, read_table, text[:-1])
            self.refused(NoText, read_table, text + "\n")
            self.refused(NoText, read_table, text + " ")
            self.refused(NoText, read_table, text + "-")
            self.refused(NoText, read_table, "\n" + text)

    def test_the_amount_of_rows_and_cells(self):
        for many, length, amount in product(range(8), range(1, 8), range(11)):
            text = f"columns {many}\n" + (" ".join("3" * length) + "\n") * amount
            if 1 <= many <= 5 and amount <= 8 and (length == many or amount == 0):
                self.assertEqual(self.ask(read_table, text), (many, ((3,) * many,) * amount))
            else:
                self.refused(NoText, read_table, text)

    def test_any_value(self):
        for thing in ANY_VALUES + SOME_TABLES + [b"columns 1\n", ["columns 1\n"], ("columns 1\n",), ["columns 1", ""]]:
            if thing != "columns 2\n1 -\n":
                self.refused(NoText, read_table, thing)

    def test_rules_are_no_rows(self):
        for many, rules, text in RULES_TEXTS:
            if rules:
                self.refused(NoText, read_table, text)


class RulesTextTest(CallCase):
    def test_texts(self):
        for many, rules, text in RULES_TEXTS:
            self.assertEqual(self.ask(rules_text, many, rules), text)
            self.assertEqual(self.ask(read_rules, text), (many, rules))

    def test_the_example_of_the_document(self):
        self.assertEqual(self.ask(rules_text, 3, (((0, 1), 2), ((), 0))), "columns 3\n0 1 > 2\n> 0\n")

    def test_all_rules_there_and_back(self):
        for many in range(1, 6):
            for rule in all_rules(many):
                self.assertEqual(read_rules(rules_text(many, (rule,))), (many, (rule,)))
            for rules in small_rule_tuples(min(many, 3)):
                self.assertEqual(read_rules(rules_text(many, rules)), (many, rules))

    def test_all_short_texts(self):
        found = 0
        for length in range(7):
            for signs in product("012> \n", repeat=length):
                text = "columns 2\n" + "".join(signs)
                try:
                    many, rules = read_rules(text)
                except NoText:
                    continue
                found += 1
                self.assertEqual(rules_text(many, rules), text)
        # No rule, one of the two without given columns, or one of the two with one.
        self.assertEqual(found, 5)

    def test_no_many_first(self):
        for many in WRONG_MANY:
            for rules in ((), (((0,), 1),), None, [], (((), 0),) * 9):
                self.refused(NoMany, rules_text, many, rules)

    def test_then_no_rules(self):
        for many, rule in WRONG_RULES:
            self.refused(NoRules, rules_text, many, (rule,))
            self.refused(NoRules, rules_text, many, (((), 0), rule))
        for rules in ANY_VALUES + SOME_TABLES + [(((0,), 1),) * 9, [((0,), 1)], (((0,), 3),), ((0,), 1)]:
            if rules != ():
                self.refused(NoRules, rules_text, 3, rules)

    def test_argument_names(self):
        self.assertEqual(rules_text(rules=(), many=2), "columns 2\n")
        self.assertEqual(read_rules(text="columns 2\n"), (2, ()))


class ReadRulesTest(CallCase):
    def test_wrong_heads(self):
        for text in WRONG_HEADS:
            self.refused(NoText, read_rules, text)
            self.refused(NoText, read_rules, text + "> 0\n")

    def test_wrong_rules(self):
        for line in (
            "", " ", ">", "> ", " >", "0", "0 1", "0 >", "0 > ", ">1", "0> 1", "0 >1", " > 1", "> 1 ", "0  > 1",
            "0 >  1", " 0 > 1", "0 > 1 ", "0\t> 1", "0 -> 1", "0 => 1", "0 > > 1", "> > 1", "0 > 1 > 2", "> 0 1",
            "0 > 1 2",
            "0 > 0", "1 > 1", "0 1 > 1", "1 0 > 2", "0 0 > 1", "2 1 > 0", "0 > 3", "3 > 0", "0 > -1", "-1 > 0", "- > 0",
            "0 > -", "00 > 1", "0 > 01", "0 > +1", "+0 > 1", "0, 2 > 1", "0 > x", "x > 0", "0 > 1.0", "0 > 1\r",
            "0 < 1", "0 1 2 > 0", "0 > \u0661", "0 > " + "1" * 500, "0 " * 200 + "> 1", "0 >\n1", "\n0 > 1", "0 > 1\n",
            "1 2 3",
        ):
            self.refused(NoText, read_rules, f"columns 3\n{line}\n")
            self.refused(NoText, read_rules, f"columns 3\n0 > 1\n{line}\n")
            self.refused(NoText, read_rules, f"columns 3\n{line}\n> 0\n")

    def test_the_line_feed_at_the_end(self):
        for many, rules, text in RULES_TEXTS:
            self.refused(NoText, read_rules, text[:-1])
            self.refused(NoText, read_rules, text + "\n")
            self.refused(NoText, read_rules, text + " ")
            self.refused(NoText, read_rules, text + ">")
            self.refused(NoText, read_rules, "\n" + text)

    def test_the_amount_of_rules(self):
        for many, amount in product(range(8), range(12)):
            text = f"columns {many}\n" + "> 0\n" * amount
            if 1 <= many <= 5 and amount <= 8:
                self.assertEqual(self.ask(read_rules, text), (many, (((), 0),) * amount))
            else:
                self.refused(NoText, read_rules, text)

    def test_columns_are_those_of_the_first_line(self):
        for many in range(1, 6):
            for given, then in product(range(7), repeat=2):
                text = f"columns {many}\n{given} > {then}\n"
                if given != then and max(given, then) < many:
                    self.assertEqual(self.ask(read_rules, text), (many, (((given,), then),)))
                else:
                    self.refused(NoText, read_rules, text)

    def test_any_value(self):
        for thing in ANY_VALUES + SOME_TABLES + [b"columns 1\n", ["columns 1\n"], ("columns 1\n",), (2, ())]:
            self.refused(NoText, read_rules, thing)


if __name__ == "__main__":
    unittest.main()
