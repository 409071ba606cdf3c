"""What the document promises over the whole program: [2], [90]."""

import unittest
from itertools import combinations, product

from blankcells import certain, conflicts, fillings, joining, sheets, splits, sure, tables, texts
from blankcells.errors import Conflict, NoFilling
from tests.checks import CallCase
from tests.trying import Walk, blank_places, rules_hold

RULES = (((0,), 1), ((1,), 2))
TABLE = (3, ((1, 2, None), (1, None, 3), (None, 4, 5)))
CLASH = (3, ((1, 5, 0), (1, 6, None), (2, 5, 0)))
FULL = (3, ((1, 2, 3), (1, 2, 3), (2, 4, 5)))


def column_sets(many):
    """All sets of many columns."""
    return [columns for size in range(many + 1) for columns in combinations(range(many), size)]


def written(table, row, column, value):
    """The table with a value at a place."""
    cells = [list(cells) for cells in table[1]]
    cells[row][column] = value
    return (table[0], tuple(map(tuple, cells)))


def has_filling(table, rules):
    """Whether there is a filling."""
    return fillings.verdict(table, rules)[0] == "filling"


def some_cases(state, turns, filled=True):
    """Tables with rules, all with a filling or all without one, and the walk that found them."""
    walk = Walk(state)
    found = 0
    while found < turns:
        many = 1 + walk.number(4)
        table = walk.table(many, 1 + walk.number(6), range(1 + walk.number(5)), walk.number(9))
        rules = walk.rules(many, 4)
        if has_filling(table, rules) == filled:
            found += 1
            yield walk, table, rules


class FewerTest(CallCase):
    """A table without some of its rows, or with fewer rules, has a filling if it had one; each stays one."""

    def test_fewer_rows(self):
        for walk, table, rules in some_cases(81, 60):
            many, rows = table
            full = fillings.general(table, rules)
            for size in range(len(rows)):
                for numbers in combinations(range(len(rows)), size):
                    fewer = (many, tuple(rows[number] for number in numbers))
                    fewer_full = (many, tuple(full[1][number] for number in numbers))
                    self.assertTrue(has_filling(fewer, rules))
                    self.assertTrue(fillings.shows_verdict(fewer, rules, ("filling", fewer_full)))

    def test_fewer_rules(self):
        for walk, table, rules in some_cases(82, 60):
            full = fillings.general(table, rules)
            for size in range(len(rules)):
                for fewer in combinations(rules, size):
                    self.assertTrue(has_filling(table, fewer))
                    self.assertTrue(fillings.shows_verdict(table, fewer, ("filling", full)))

    def test_sheets(self):
        for walk, table, rules in some_cases(83, 40):
            sheet = sheets.Strict(table[0], *rules)
            sheet.rows = table[1]
            for number in range(len(sheet) - 1, -1, -1):
                self.assertEqual(sheet.drop(number), table[1][number])


class WritingTest(CallCase):
    """Writing a certain value, or a value of a filling, leaves a filling."""

    def test_certain_values(self):
        for walk, table, rules in some_cases(84, 120):
            for row, column, value in certain.certain(table, rules):
                self.assertTrue(has_filling(written(table, row, column, value), rules))

    def test_values_of_fillings(self):
        for walk, table, rules in some_cases(85, 120):
            full = fillings.general(table, rules)
            for row, column in blank_places(table):
                self.assertTrue(has_filling(written(table, row, column, full[1][row][column]), rules))

    def test_what_a_blank_can_and_cannot_be(self):
        for walk, table, rules in some_cases(86, 60):
            for row, column in blank_places(table):
                word, known = certain.choices(table, rules, (row, column))
                for value in {cells[column] for cells in table[1]} - {None} | {9999}:
                    possible = value == known if word == "only" else value not in known
                    self.assertEqual(has_filling(written(table, row, column, value), rules), possible)

    def test_strict_sheets(self):
        for walk, table, rules in some_cases(87, 60):
            sheet = sheets.Strict(table[0], *rules)
            sheet.rows = table[1]
            for row, column in blank_places(table):
                word, known = certain.choices(table, rules, (row, column))
                for value in () if word == "only" else known:
                    self.assertRaises(Conflict, sheet.put, row, column, value)
            self.assertEqual(sheet.table, table)
            full = fillings.general(table, rules)
            for row, column in blank_places(table):
                sheet[row, column] = full[1][row][column]
            self.assertEqual(sheet.table, full)


class FullTest(CallCase):
    """A full table has a filling exactly if the rules hold in it."""

    def test_full_tables(self):
        walk = Walk(88)
        seen = set()
        for turn in range(300):
            many = 1 + walk.number(4)
            table = walk.full_table(many, walk.number(6), range(1 + walk.number(4)))
            rules = walk.rules(many, 3)
            held = rules_hold(table[1], rules)
            seen.add(held)
            self.assertIs(tables.holds(table, rules), held)
            self.assertIs(has_filling(table, rules), held)
            self.assertEqual(list(fillings.fillings(table, rules, (0,))), [table] if held else [])
            self.assertEqual(list(conflicts.clashing(table, rules)) == [], held)
            self.assertEqual(conflicts.clearing(table, rules, 0), () if held else None)
        self.assertEqual(seen, {True, False})

    def test_fillings_are_full_tables_with_a_filling(self):
        for walk, table, rules in some_cases(89, 60):
            full = fillings.general(table, rules)
            self.assertEqual(fillings.general(full, rules), full)
            self.assertEqual(fillings.verdict(full, rules), ("filling", full))


class ExchangedTest(CallCase):
    """Different values of a column may be exchanged for others everywhere in it."""

    def exchanged(self, cells):
        """A row with other values, different ones for different ones of a column."""
        return tuple(
            cell if cell is None else 9999 - 100 * column - cell * 7 % 100 for column, cell in enumerate(cells)
        )

    def test_with_a_filling(self):
        for walk, table, rules in some_cases(90, 60):
            other = (table[0], tuple(map(self.exchanged, table[1])))
            self.assertTrue(has_filling(other, rules))
            self.assertEqual(joining.lots(other, rules), joining.lots(table, rules))
            for columns in column_sets(table[0]):
                found = sure.sure_rows(other, rules, columns)
                self.assertEqual(len(found), len(sure.sure_rows(table, rules, columns)))
            whole = tuple(range(table[0]))
            expected = sorted(map(self.exchanged, sure.sure_rows(table, rules, whole)))
            self.assertEqual(sure.sure_rows(other, rules, whole), tuple(expected))
            parts = walk.parts(table[0])
            expected = sorted(map(self.exchanged, sure.sure_rejoined(table, rules, parts)))
            self.assertEqual(sure.sure_rejoined(other, rules, parts), tuple(expected))

    def test_without_a_filling(self):
        for walk, table, rules in some_cases(91, 20, False):
            other = (table[0], tuple(map(self.exchanged, table[1])))
            self.assertFalse(has_filling(other, rules))
            self.assertTrue(fillings.shows_verdict(other, rules, fillings.verdict(table, rules)))
            self.assertEqual(list(conflicts.clashing(other, rules)), list(conflicts.clashing(table, rules)))
            self.assertEqual(conflicts.clearing(other, rules, 2), conflicts.clearing(table, rules, 2))
            self.assertEqual(list(conflicts.clearings(other, rules, 1)), list(conflicts.clearings(table, rules, 1)))


class SureTest(CallCase):
    """What is sure stays sure if a row is added, a value of a filling is written, or a rule is added."""

    def stays(self, table, rules, more, more_rules):
        if not has_filling(more, more_rules):
            return False
        for columns in column_sets(table[0]):
            before = set(sure.sure_rows(table, rules, columns))
            self.assertLessEqual(before, set(sure.sure_rows(more, more_rules, columns)), (table, more))
        return True

    def test_a_row_is_added(self):
        seen = set()
        for walk, table, rules in some_cases(92, 80):
            many, rows = table
            row = walk.table(many, 1, range(5), walk.number(3))[1][0]
            at = walk.number(len(rows) + 1)
            seen.add(self.stays(table, rules, (many, rows[:at] + (row,) + rows[at:]), rules))
        self.assertEqual(seen, {True, False})

    def test_a_value_of_a_filling_is_written(self):
        for walk, table, rules in some_cases(93, 80):
            full = fillings.general(table, rules)
            for row, column in blank_places(table):
                more = written(table, row, column, full[1][row][column])
                self.assertTrue(self.stays(table, rules, more, rules))

    def test_a_rule_is_added(self):
        seen = set()
        for walk, table, rules in some_cases(94, 80):
            more = walk.rules(table[0], 4)
            seen.add(self.stays(table, rules, table, rules + more))
        self.assertEqual(seen, {True, False})

    def test_the_rows_that_are_put_together(self):
        for walk, table, rules in some_cases(95, 40):
            parts = walk.parts(table[0])
            full = fillings.general(table, rules)
            before = set(sure.sure_rejoined(table, rules, parts))
            self.assertLessEqual(before, set(sure.sure_rejoined(full, rules, parts)))
            self.assertLessEqual(before, set(splits.rejoined(full, parts)))


class ClearingsTest(CallCase):
    """If a table can be filled, each of its smallest clearings is empty."""

    def test_with_a_filling(self):
        for walk, table, rules in some_cases(96, 60):
            for most in range(3):
                self.assertEqual(conflicts.clearing(table, rules, most), ())
                self.assertEqual(list(conflicts.clearings(table, rules, most)), [()])

    def test_without_a_filling(self):
        for walk, table, rules in some_cases(97, 20, False):
            self.assertNotIn((), list(conflicts.clearings(table, rules, 1)))
            self.assertIsNone(conflicts.clearing(table, rules, 0))


class AllFunctionsTest(CallCase):
    """[2]: arguments stay as they are, the same call gives an equal result, results may be passed back."""

    def test_the_same_call_again(self):
        both = ((0, 0), (2, 1))
        for table, rules in product((TABLE, FULL, (3, ())), (RULES, RULES[:1], ())):
            self.ask(tables.blanks, table)
            self.ask(texts.table_text, table)
            self.ask(texts.rules_text, 3, rules)
            for function in (joining.lots, fillings.general, fillings.verdict, certain.certain):
                self.ask(function, table, rules)
            self.ask(sure.sure_rows, table, rules, (0, 2))
            self.ask(sure.lacking, table, rules, (0, 2), (1, 3))
            self.ask(sure.sure_rejoined, table, rules, ((0, 1), (1, 2)))
            if table[1]:
                self.ask(certain.choices, table, rules, (0, 0))
                self.ask(certain.relation, table, rules, *both)
                self.ask(certain.together, table, rules, *both)
        for table in (TABLE, FULL, CLASH):
            self.ask(conflicts.clearing, table, RULES, 2)
            for call in (
                lambda: conflicts.clashing(table, RULES), lambda: conflicts.clearings(table, RULES, 2),
                lambda: fillings.fillings(table, RULES, (1, 2)),
            ):
                self.assertEqual(list(call()), list(call()))

    def test_results_passed_back(self):
        full = fillings.general(TABLE, RULES)
        self.assertEqual(texts.read_table(texts.table_text(full)), full)
        self.assertIs(fillings.shows_verdict(TABLE, RULES, fillings.verdict(TABLE, RULES)), True)
        self.assertIs(fillings.shows_verdict(CLASH, RULES, fillings.verdict(CLASH, RULES)), True)
        for place in tables.blanks(TABLE):
            certain.choices(TABLE, RULES, place)
        self.assertEqual(texts.read_rules(texts.rules_text(3, RULES)), (3, RULES))
        sheet = sheets.Sheet(*[full[0], *RULES])
        sheet.rows = full[1]
        self.assertEqual(sheet.table, full)
        self.assertEqual(sheets.Sheet(sheet.many, *sheet.rules), sheets.Sheet(3, *RULES))
        for places in conflicts.clearings(CLASH, RULES, 2):
            for row, column in places:
                sheet.put(row, column, None)

    def test_a_filling_or_no_filling(self):
        for table, filled in ((TABLE, True), (FULL, True), (CLASH, False)):
            for call in (
                lambda: fillings.general(table, RULES), lambda: certain.certain(table, RULES),
                lambda: certain.choices(table, RULES, (0, 0)), lambda: certain.relation(table, RULES, (0, 0), (1, 1)),
                lambda: certain.together(table, RULES, (0, 0), (1, 1)), lambda: sure.sure_rows(table, RULES, (0,)),
                lambda: sure.lacking(table, RULES, (0,), (1,)),
                lambda: sure.shows_lacking(table, RULES, (0,), (1,), None),
                lambda: sure.sure_rejoined(table, RULES, ((0, 1, 2),)),
            ):
                if filled:
                    call()
                else:
                    self.assertRaises(NoFilling, call)


if __name__ == "__main__":
    unittest.main()
