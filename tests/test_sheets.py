"""Sheets: [2], [80], [81]."""

import unittest
from itertools import product

from blankcells.certain import certain, choices
from blankcells.errors import (
    BlankError, Conflict, NoCell, NoFilling, NoMany, NoNumber, NoPlace, NoRow, NoRules, NothingDone, NoTable, TooMany,
)
from blankcells.fillings import shows_verdict, verdict
from blankcells.sheets import Counting, CountingWriting, Sheet, Strict, Writing
from tests.samples import ANY_VALUES, SOME_TABLES, WRONG_MANY, WRONG_PLACES, WRONG_RULES, WRONG_TABLES
from tests.trying import Walk

RULES = (((0,), 1), ((1,), 2))
TABLE = (3, ((1, 2, None), (1, None, 3), (None, 4, 5)))
WRITTEN = ((1, 2, 3), (1, 2, 3), (None, 4, 5))
CLASH = ((1, 5), (1, 6), (2, 5))

CLASSES = (Sheet, Strict, Writing, Counting, CountingWriting)
STRICT = (Strict, Writing, CountingWriting)
COUNTING = (Counting, CountingWriting)
WRITING = (Writing, CountingWriting)

WRONG_CELLS = [
    -1, 10000, 9999999999999, -9999999999999, True, False, "", "1", "-", (), (1,), [], [1], {}, {0: 1}, NoCell(),
    Sheet(1),
]

# None of these is a row of two columns.
WRONG_ROWS = [
    (), (1,), (1, 2, 3), [1, 2], [], "12", {1: 2}, None, 1, True, (1, -1), (10000, 1), (True, 1), (1, False), (1, "2"),
    ((1, 2),), (1, (2,)), (1, [2]), (1, 9999999999999), (1, NoRow()), Sheet(2),
]


def made(kind, rows, rules=RULES, many=3):
    """A sheet of a class with these rows, made by one change."""
    sheet = kind(many, *rules)
    sheet.rows = rows
    return sheet


def state(sheet):
    """All that can be read off a sheet."""
    counted = sheet.changes if isinstance(sheet, COUNTING) else None
    return (sheet.many, sheet.rules, sheet.table, sheet.rows, sheet.blank, len(sheet), repr(sheet), counted)


def rows_back(sheet):
    """The rows, and those behind each undo until nothing is left to take back; the sheet is used up."""
    found = [sheet.rows]
    while True:
        try:
            sheet.undo()
        except NothingDone:
            return found
        found.append(sheet.rows)


class SheetCase(unittest.TestCase):
    def refused(self, error, sheet, action, *arguments):
        """An action raises exactly this error and leaves the sheet and the arguments as they were."""
        before = state(sheet)
        shown = repr(arguments)
        for turn in range(2):
            with self.assertRaises(error) as caught:
                action(*arguments)
            self.assertIs(type(caught.exception), error, shown)
        self.assertEqual(state(sheet), before)
        self.assertEqual(repr(arguments), shown)
        return caught.exception

    def putting(self, sheet):
        """Both ways to change a cell."""
        def put(at, cell):
            sheet[at] = cell

        return lambda at, cell: sheet.put(*at, cell), put

    def assigning(self, sheet):
        """Both ways to assign rows."""
        def assign(rows):
            sheet.rows = rows

        return sheet.assign_rows, assign


class MadeTest(SheetCase):
    def test_at_first(self):
        for kind in CLASSES:
            for many, rules in ((1, ()), (5, ()), (3, RULES), (2, (((0,), 1),) * 8), (1, (((), 0),))):
                sheet = kind(many, *rules)
                self.assertEqual((sheet.many, sheet.rules, sheet.rows), (many, rules, ()))
                self.assertEqual((sheet.table, sheet.blank, len(sheet)), ((many, ()), 0, 0))
                self.assertRaises(NothingDone, sheet.undo)

    def test_argument_name(self):
        for kind in CLASSES:
            self.assertEqual(kind(many=2).many, 2)

    def test_no_many(self):
        for kind in CLASSES:
            for many in WRONG_MANY + [value for value in ANY_VALUES if value is True or value != 1]:
                for rules in ((), RULES, (None,), (((), 0),) * 9):
                    with self.assertRaises(NoMany) as caught:
                        kind(many, *rules)
                    self.assertIs(type(caught.exception), NoMany)

    def test_no_rules(self):
        wrong = [(many, (rule,)) for many, rule in WRONG_RULES]
        wrong += [(many, (((), 0), rule)) for many, rule in WRONG_RULES]
        wrong += [(3, (value,)) for value in ANY_VALUES + SOME_TABLES] + [(3, (RULES,)), (2, RULES), (2, ([(0,), 1],))]
        wrong += [(2, (((0,), 1),) * 9), (1, (((), 0),) * 12)]
        for kind in CLASSES:
            for many, rules in wrong:
                with self.assertRaises(NoRules) as caught:
                    kind(many, *rules)
                self.assertIs(type(caught.exception), NoRules)

    def test_the_families(self):
        self.assertEqual([issubclass(kind, Sheet) for kind in CLASSES], [True] * 5)
        self.assertEqual([issubclass(kind, Strict) for kind in CLASSES], [False, True, True, False, True])
        self.assertEqual([issubclass(kind, Writing) for kind in CLASSES], [False, False, True, False, True])
        self.assertEqual([issubclass(kind, Counting) for kind in CLASSES], [False, False, False, True, True])
        for kind in CLASSES:
            self.assertEqual(hasattr(kind(1), "changes"), kind in COUNTING)

    def test_properties_that_cannot_be_assigned(self):
        for kind in CLASSES:
            sheet = made(kind, TABLE[1])
            before = state(sheet)
            for name in ("many", "rules", "table", "blank", "changes"):
                if hasattr(sheet, name):
                    self.assertRaises(AttributeError, setattr, sheet, name, 1)
            self.assertEqual(state(sheet), before)


class RowsTest(SheetCase):
    def test_properties(self):
        for kind in (Sheet, Strict, Counting):
            sheet = made(kind, TABLE[1])
            self.assertEqual((sheet.many, sheet.rules, sheet.table, sheet.rows), (3, RULES, TABLE, TABLE[1]))
            self.assertEqual((sheet.blank, len(sheet)), (3, 3))
            self.assertIs(type(sheet.rows), tuple)
            self.assertIs(type(sheet.rules), tuple)

    def test_assigned(self):
        for kind in CLASSES:
            for way in range(2):
                sheet = kind(2)
                for rows in ((), ((1, 2),), ((None, None),) * 8, ((0, 9999), (1, None)), ()):
                    self.assertIsNone(self.assigning(sheet)[way](rows))
                    self.assertEqual(sheet.rows, rows)
                self.assertEqual(len(rows_back(sheet)), 6)

    def test_no_table(self):
        pairs = [table for table in WRONG_TABLES if isinstance(table, tuple) and len(table) == 2]
        wrong = [rows for many, rows in pairs if many == 2]
        wrong += [((1, 2, 3),), ((1,),), (2, ((1, 2),)), [(1, 2)], ((1, 2),) * 9, ((None, None),) * 9]
        for kind in CLASSES:
            sheet = kind(2, ((0,), 1))
            sheet.add((1, None))
            for way in self.assigning(sheet):
                for rows in wrong + [value for value in ANY_VALUES if value != ()] + SOME_TABLES:
                    self.refused(NoTable, sheet, way, rows)
            self.assertEqual(rows_back(sheet), [((1, None),), ()])


class AddAndDropTest(SheetCase):
    def test_add(self):
        for kind in CLASSES:
            sheet = kind(2)
            for number in range(8):
                self.assertEqual(sheet.add((number, None)), number)
                self.assertEqual(sheet.rows, tuple((at, None) for at in range(number + 1)))
                self.assertEqual((len(sheet), sheet.blank), (number + 1, number + 1))
            error = self.refused(TooMany, sheet, sheet.add, (1, 2))
            self.assertEqual((error.amount, error.limit), (9, 8))

    def test_no_row(self):
        for kind in CLASSES:
            for amount in (0, 1, 8):
                sheet = made(kind, ((1, 2),) * amount, (((0,), 1),), 2)
                for row in WRONG_ROWS + [value for value in ANY_VALUES if value != (1, 2)] + SOME_TABLES:
                    self.refused(NoRow, sheet, sheet.add, row)

    def test_drop(self):
        for kind in CLASSES:
            rows = ((1, 2), (3, None), (5, 6))
            for number in range(3):
                sheet = made(kind, rows, (), 2)
                self.assertEqual(sheet.drop(number), rows[number])
                self.assertEqual(sheet.rows, rows[:number] + rows[number + 1:])
            sheet = made(kind, ((7, 7),) * 8, (), 2)
            for left in range(7, -1, -1):
                self.assertEqual(sheet.drop(left), (7, 7))
                self.assertEqual(len(sheet), left)
            self.refused(NoNumber, sheet, sheet.drop, 0)
            self.assertEqual(sheet.add((1, 2)), 0)

    def test_no_number(self):
        wrong = [-1, 3, -3, 8, True, False, None, "", "0", (), (0,), [], [0], {}, 9999999999999, NoNumber(), Sheet(1)]
        wrong += [value for value in ANY_VALUES if isinstance(value, bool) or value not in (0, 1)]
        for kind in CLASSES:
            sheet = made(kind, TABLE[1])
            for number in wrong:
                self.refused(NoNumber, sheet, sheet.drop, number)

    def test_argument_names(self):
        sheet = Sheet(1)
        self.assertEqual(sheet.add(row=(3,)), 0)
        self.assertIsNone(sheet.assign_rows(rows=((4,),)))
        self.assertIsNone(sheet.put(cell=5, column=0, row=0))
        self.assertEqual(sheet(column=0, row=0), 5)
        self.assertEqual(sheet.drop(number=0), (5,))


class CellsTest(SheetCase):
    def test_read(self):
        for kind in (Sheet, Strict, Counting):
            sheet = made(kind, TABLE[1])
            for row, column in product(range(3), repeat=2):
                self.assertEqual(sheet[row, column], TABLE[1][row][column])

    def test_changed(self):
        for kind in CLASSES:
            for way in range(2):
                for row, column, cell in product(range(3), range(2), (0, 9999, None, 4)):
                    sheet = made(kind, ((1, 2), (3, None), (None, 6)), (), 2)
                    self.assertIsNone(self.putting(sheet)[way]((row, column), cell))
                    expected = [list(cells) for cells in ((1, 2), (3, None), (None, 6))]
                    expected[row][column] = cell
                    self.assertEqual(sheet.rows, tuple(map(tuple, expected)))
                    self.assertEqual(sheet[row, column], cell)

    def test_no_place(self):
        places = WRONG_PLACES + [value for value in ANY_VALUES if value != (1, 2)] + SOME_TABLES
        for kind in CLASSES:
            sheet = made(kind, TABLE[1])
            for place in places:
                self.refused(NoPlace, sheet, lambda at: sheet[at], place)
                for cell in (1, None, -1, "x"):
                    self.refused(NoPlace, sheet, self.putting(sheet)[1], place, cell)
                if isinstance(place, tuple) and len(place) == 2:
                    self.refused(NoPlace, sheet, self.putting(sheet)[0], place, 1)
                    self.refused(NoPlace, sheet, self.putting(sheet)[0], place, -1)
                    self.refused(NoPlace, sheet, sheet, *place)
            for thing in [value for value in ANY_VALUES if isinstance(value, bool) or value not in (0, 1)]:
                self.refused(NoPlace, sheet, sheet, thing, 0)
                self.refused(NoPlace, sheet, sheet, 0, thing)
                self.refused(NoPlace, sheet, self.putting(sheet)[0], (thing, 0), 1)
                self.refused(NoPlace, sheet, self.putting(sheet)[0], (0, thing), 1)

    def test_no_place_without_rows(self):
        for kind in CLASSES:
            sheet = kind(2)
            self.refused(NoPlace, sheet, sheet, 0, 0)
            self.refused(NoPlace, sheet, sheet.put, 0, 0, 1)
            self.refused(NoPlace, sheet, lambda: sheet[0, 0])

    def test_no_cell(self):
        cells = WRONG_CELLS + [
            value for value in ANY_VALUES
            if value is not None and (isinstance(value, bool) or value not in (0, 1, 6))
        ] + SOME_TABLES
        for kind in CLASSES:
            sheet = made(kind, TABLE[1])
            for cell in cells:
                for way in self.putting(sheet):
                    self.refused(NoCell, sheet, way, (0, 1), cell)
                    self.refused(NoCell, sheet, way, (2, 0), cell)

    def test_called(self):
        for kind in CLASSES:
            sheet = made(kind, TABLE[1])
            for row, column in product(range(3), repeat=2):
                word, known = choices(TABLE, RULES, (row, column))
                self.assertEqual(sheet(row, column), known if word == "only" else None)
            self.assertEqual([sheet(1, 1), sheet(0, 2), sheet(2, 0)], [2, 3, None])
            self.assertEqual(len(rows_back(sheet)), 2)

    def test_called_without_a_filling(self):
        for kind in (Sheet, Counting):
            sheet = made(kind, CLASH, (((0,), 1),), 2)
            for row, column in product(range(3), range(2)):
                self.refused(NoFilling, sheet, sheet, row, column)
            self.refused(NoPlace, sheet, sheet, 3, 0)
            sheet[1, 1] = None
            self.assertEqual(sheet(1, 1), 5)

    def test_joined_blanks_have_no_value(self):
        for kind in CLASSES:
            sheet = made(kind, ((1, None), (1, None)), (((0,), 1),), 2)
            self.assertIsNone(sheet(0, 1))


class UndoTest(SheetCase):
    def test_each_change_is_taken_back(self):
        for kind in CLASSES:
            sheet = kind(2)
            seen = [sheet.rows]
            for change in (
                lambda: sheet.add((1, 2)), lambda: sheet.add((1, None)), lambda: sheet.put(0, 0, 5),
                lambda: sheet.assign_rows(((7, 8), (9, None), (None, None))), lambda: sheet.drop(1),
                lambda: sheet.__setitem__((0, 1), None), lambda: setattr(sheet, "rows", ()),
            ):
                change()
                seen.append(sheet.rows)
            self.assertEqual(len(set(seen[:-1])), 7)
            self.assertEqual(rows_back(sheet), seen[::-1])
            self.refused(NothingDone, sheet, sheet.undo)

    def test_returns_none(self):
        sheet = made(Sheet, TABLE[1])
        self.assertIsNone(sheet.undo())

    def test_changes_that_leave_everything_as_it_was(self):
        for kind in CLASSES:
            sheet = made(kind, ((1, 2),), (), 2)
            sheet.put(0, 0, 1)
            sheet[0, 1] = 2
            sheet.rows = ((1, 2),)
            sheet.assign_rows(((1, 2),))
            self.assertEqual(rows_back(sheet), [((1, 2),)] * 5 + [()])

    def test_changes_behind_an_undo(self):
        for kind in CLASSES:
            sheet = kind(1)
            sheet.add((1,))
            sheet.add((2,))
            sheet.undo()
            sheet.add((3,))
            sheet.undo()
            sheet.undo()
            sheet.add((4,))
            self.assertEqual(rows_back(sheet), [((4,),), ()])

    def test_refused_changes_are_not_taken_back(self):
        for kind in CLASSES:
            sheet = kind(2, ((0,), 1))
            sheet.add((1, 2))
            for change, arguments in (
                (sheet.add, ((1,),)), (sheet.drop, (1,)), (sheet.put, (0, 2, 1)), (sheet.put, (0, 0, -1)),
                (sheet.assign_rows, (None,)),
            ):
                self.assertRaises(BlankError, change, *arguments)
            self.assertEqual(rows_back(sheet), [((1, 2),), ()])

    def test_many_changes(self):
        for kind in (Sheet, Counting):
            sheet = kind(1)
            sheet.add((0,))
            for number in range(3000):
                sheet.put(0, 0, number)
            for number in range(2999, -1, -1):
                self.assertEqual(sheet[0, 0], number)
                sheet.undo()
            self.assertEqual(rows_back(sheet), [((0,),), ()])


class Stop(Exception):
    """An exception of the tests' own."""


class TryingTest(SheetCase):
    def start(self, kind):
        """A sheet with two changes."""
        sheet = kind(2, ((0,), 1))
        sheet.add((1, 2))
        sheet.add((3, None))
        return sheet

    def test_without_an_exception(self):
        for kind in CLASSES:
            sheet = self.start(kind)
            with sheet.trying():
                sheet.add((5, 6))
                sheet.put(1, 1, 4)
            self.assertEqual(sheet.rows, ((1, 2), (3, 4), (5, 6)))
            self.assertEqual(rows_back(sheet)[1:], [((1, 2), (3, None), (5, 6)), ((1, 2), (3, None)), ((1, 2),), ()])

    def test_with_an_exception(self):
        for kind in CLASSES:
            for error in (Stop, KeyError, KeyboardInterrupt, NoTable):
                sheet = self.start(kind)
                mine = error("mine") if error != NoTable else error()
                with self.assertRaises(error) as caught:
                    with sheet.trying():
                        sheet.add((5, 6))
                        sheet.drop(0)
                        sheet.rows = ()
                        raise mine
                self.assertIs(caught.exception, mine)
                self.assertEqual(rows_back(sheet), [((1, 2), (3, None)), ((1, 2),), ()])

    def test_an_exception_behind_undo(self):
        for kind in CLASSES:
            sheet = self.start(kind)
            with self.assertRaises(Stop):
                with sheet.trying():
                    sheet.undo()
                    sheet.undo()
                    sheet.add((7, 8))
                    raise Stop
            self.assertEqual(rows_back(sheet), [((1, 2), (3, None)), ((1, 2),), ()])

    def test_nothing_done_leaves_the_block(self):
        for kind in CLASSES:
            sheet = self.start(kind)
            with self.assertRaises(NothingDone):
                with sheet.trying():
                    for turn in range(3):
                        sheet.undo()
            self.assertEqual(rows_back(sheet), [((1, 2), (3, None)), ((1, 2),), ()])

    def test_exceptions_inside_the_block(self):
        for kind in CLASSES:
            sheet = self.start(kind)
            with sheet.trying():
                sheet.add((5, 6))
                self.assertRaises(NoRow, sheet.add, (1,))
            self.assertEqual(len(sheet), 3)

    def test_as_it_was_when_the_block_was_entered(self):
        for kind in CLASSES:
            sheet = self.start(kind)
            block = sheet.trying()
            sheet.add((5, 6))
            with self.assertRaises(Stop):
                with block:
                    sheet.add((7, 8))
                    raise Stop
            self.assertEqual(sheet.rows, ((1, 2), (3, None), (5, 6)))
            self.assertEqual(len(rows_back(sheet)), 4)

    def test_blocks_in_blocks(self):
        for kind in CLASSES:
            sheet = self.start(kind)
            with sheet.trying():
                sheet.add((5, 6))
                with self.assertRaises(Stop):
                    with sheet.trying():
                        sheet.add((7, 8))
                        raise Stop
                self.assertEqual(len(sheet), 3)
                sheet.add((9, 9))
            self.assertEqual(sheet.rows, ((1, 2), (3, None), (5, 6), (9, 9)))
            with self.assertRaises(Stop):
                with sheet.trying():
                    sheet.undo()
                    with sheet.trying():
                        sheet.undo()
                        sheet.add((8, 8))
                    raise Stop
            self.assertEqual(rows_back(sheet)[0], ((1, 2), (3, None), (5, 6), (9, 9)))

    def test_changes_behind_a_block(self):
        for kind in CLASSES:
            sheet = self.start(kind)
            with self.assertRaises(Stop):
                with sheet.trying():
                    sheet.rows = ()
                    raise Stop
            sheet.add((5, 6))
            self.assertEqual(rows_back(sheet), [((1, 2), (3, None), (5, 6)), ((1, 2), (3, None)), ((1, 2),), ()])

    def test_two_sheets(self):
        first, second = self.start(Sheet), self.start(Counting)
        with self.assertRaises(Stop):
            with first.trying():
                first.add((5, 6))
                second.add((5, 6))
                raise Stop
        self.assertEqual((len(first), len(second)), (2, 3))


class LooksTest(SheetCase):
    def test_len(self):
        for kind in CLASSES:
            for amount in range(9):
                self.assertEqual(len(made(kind, ((1, 2),) * amount, (), 2)), amount)

    def test_in(self):
        for kind in CLASSES:
            sheet = made(kind, ((1, 2), (0, None)), (), 2)
            for row in ((1, 2), (0, None)):
                self.assertIs(row in sheet, True)
                self.assertIs(row not in sheet, False)
            for thing in (
                (2, 1), (1,), (1, 2, 3), [1, 2], (True, 2), (False, None), (0, 0), (0, False), (None, 0), (1, None),
                "12", {1: 2}, ((1, 2),), ((1, 2), (0, None)), sheet, [(1, 2)], 1, None, True,
            ):
                self.assertIs(thing in sheet, False, thing)
            for thing in ANY_VALUES + SOME_TABLES + WRONG_TABLES:
                self.assertIs(thing in sheet, thing == (1, 2))
                self.assertIs(thing in kind(2), False)

    def test_equal(self):
        for kind, other in product(CLASSES, repeat=2):
            self.assertIs(made(kind, WRITTEN) == made(other, WRITTEN), kind == other)
            self.assertIs(made(kind, WRITTEN) != made(other, WRITTEN), kind != other)
            self.assertIs(kind(2) == other(2), kind == other)

    def test_not_equal(self):
        for kind in CLASSES:
            sheet = made(kind, ((1, 2), (3, None)), (((0,), 1), ((1,), 0)), 2)
            self.assertIs(sheet == made(kind, ((1, 2), (3, None)), (((0,), 1), ((1,), 0)), 2), True)
            for rows, rules, many in (
                (((3, None), (1, 2)), (((0,), 1), ((1,), 0)), 2), (((1, 2), (3, 0)), (((0,), 1), ((1,), 0)), 2),
                (((1, 2),), (((0,), 1), ((1,), 0)), 2), (((1, 2), (3, None)), (((1,), 0), ((0,), 1)), 2),
                (((1, 2), (3, None)), (((0,), 1),), 2), (((1, 2), (3, None)), (((0,), 1), ((1,), 0), ((1,), 0)), 2),
                ((), (((0,), 1), ((1,), 0)), 2), ((), (((0,), 1), ((1,), 0)), 3), ((), (), 2),
            ):
                self.assertIs(sheet == made(kind, rows, rules, many), False)
            self.assertIs(kind(2) == kind(3), False)

    def test_equal_whatever_was_done_before(self):
        for kind in CLASSES:
            sheet = kind(2)
            for number in range(4):
                sheet.add((number, number))
            sheet.drop(0)
            self.assertIs(sheet == made(kind, ((1, 1), (2, 2), (3, 3)), (), 2), True)
            while len(sheet):
                sheet.undo()
            self.assertIs(sheet == kind(2), True)

    def test_equal_to_nothing_else(self):
        for kind in CLASSES:
            sheet = made(kind, ((1, 2), (3, None)), (), 2)
            for thing in ANY_VALUES + SOME_TABLES + [sheet.table, sheet.rows, repr(sheet), list(sheet.rows)]:
                self.assertIs(sheet == thing, False)
                self.assertIs(thing == sheet, False)
                self.assertIs(sheet != thing, True)
            self.assertIs(sheet == sheet, True)

    def test_repr(self):
        for kind, name in zip(CLASSES, ("Sheet", "Strict", "Writing", "Counting", "CountingWriting")):
            self.assertEqual(repr(kind(2)), f"{name}(0 rows, 0 blanks)")
            self.assertEqual(repr(made(kind, ((1, None),), (), 2)), f"{name}(1 rows, 1 blanks)")
            self.assertEqual(repr(made(kind, ((1, None), (None, None)), (), 2)), f"{name}(2 rows, 3 blanks)")
            self.assertEqual(repr(made(kind, ((None,) * 5,) * 8, (), 5)), f"{name}(8 rows, 40 blanks)")
            self.assertEqual(str(kind(1)), f"{name}(0 rows, 0 blanks)")

    def test_reading_changes_nothing(self):
        for kind in CLASSES:
            sheet = made(kind, TABLE[1])
            before = state(sheet)
            for turn in range(2):
                for row, column in product(range(3), repeat=2):
                    sheet(row, column)
                    sheet[row, column]
                (1, 2, 3) in sheet
                sheet == made(kind, TABLE[1])
                sheet.trying()
                self.assertEqual(state(sheet), before)
            self.assertEqual(len(rows_back(sheet)), 2)

    def test_rows_that_were_read_stay_as_they_are(self):
        sheet = made(Sheet, TABLE[1])
        rows, table = sheet.rows, sheet.table
        sheet.put(0, 0, 9)
        sheet.drop(1)
        self.assertEqual((rows, table), (TABLE[1], TABLE))

    def test_sheets_have_rows_of_their_own(self):
        for kind in CLASSES:
            first, second = kind(2), kind(2)
            first.add((1, 2))
            self.assertEqual((len(first), len(second)), (1, 0))
            self.assertRaises(NothingDone, second.undo)


class StrictTest(SheetCase):
    """What all that are strict refuse."""

    def conflict(self, sheet, rows, action, *arguments):
        """A change is refused, with steps for the rows with the change alone."""
        error = self.refused(Conflict, sheet, action, *arguments)
        self.assertTrue(shows_verdict((sheet.many, rows), sheet.rules, ("conflict", error.steps)), error.steps)

    def test_each_change(self):
        for kind in STRICT:
            sheet = kind(2, ((0,), 1))
            sheet.rows = ((1, 5), (2, 6))
            self.conflict(sheet, ((1, 5), (2, 6), (1, 6)), sheet.add, (1, 6))
            for way in self.putting(sheet):
                self.conflict(sheet, ((1, 5), (1, 6)), way, (1, 0), 1)
            for way in self.assigning(sheet):
                self.conflict(sheet, CLASH, way, CLASH)
            self.assertEqual(rows_back(sheet), [((1, 5), (2, 6)), ()])

    def test_the_steps_are_for_the_change_alone(self):
        # The rows as they are before the certain blanks are written: the steps are possible there.
        for kind in STRICT:
            sheet = kind(3, *RULES)
            rows = ((1, None, 3), (1, 2, None), (4, 2, 5))
            self.conflict(sheet, rows, sheet.assign_rows, rows)
            sheet.rows = rows[:2]
            self.conflict(sheet, (*sheet.rows, rows[2]), sheet.add, rows[2])

    def test_sheets_that_are_not_strict(self):
        for kind in (Sheet, Counting):
            sheet = made(kind, CLASH, (((0,), 1),), 2)
            self.assertEqual(sheet.rows, CLASH)
            self.assertEqual(sheet.add((1, 7)), 3)
            self.assertEqual(sheet.drop(1), (1, 6))

    def test_behind_the_other_exceptions(self):
        for kind in STRICT:
            sheet = kind(2, ((), 0))
            sheet.rows = ((1, None),) * 8
            self.refused(NoRow, sheet, sheet.add, (2,))
            error = self.refused(TooMany, sheet, sheet.add, (2, 2))
            self.assertEqual((error.amount, error.limit), (9, 8))
            self.refused(NoPlace, sheet, sheet.put, 8, 0, 2)
            self.refused(NoCell, sheet, sheet.put, 0, 0, -2)
            self.refused(NoTable, sheet, sheet.assign_rows, ((1, 1), (2, 2)) * 5)
            self.refused(NoNumber, sheet, sheet.drop, 8)
            self.conflict(sheet, ((2, None),) + ((1, None),) * 7, sheet.put, 0, 0, 2)

    def test_dropping_is_never_refused(self):
        walk = Walk(71)
        for kind in STRICT:
            for turn in range(30):
                table = walk.table(3, 6, range(4), 9)
                rules = walk.rules(3)
                if verdict(table, rules)[0] == "filling":
                    sheet = made(kind, table[1], rules)
                    while len(sheet):
                        sheet.drop(walk.number(len(sheet)))

    def test_a_refusal_leaves_a_block(self):
        for kind in STRICT:
            sheet = kind(2, ((0,), 1))
            sheet.add((1, 5))
            with self.assertRaises(Conflict):
                with sheet.trying():
                    sheet.add((2, 6))
                    sheet.add((1, 6))
            self.assertEqual(rows_back(sheet), [((1, 5),), ()])


class WritingTest(SheetCase):
    def test_certain_blanks_are_written(self):
        for kind in WRITING:
            sheet = made(kind, TABLE[1])
            self.assertEqual((sheet.rows, sheet.blank), (WRITTEN, 1))
            self.assertEqual((sheet[0, 2], sheet[2, 0], sheet(2, 0)), (3, None, None))
            sheet = kind(2, ((0,), 1))
            self.assertEqual(sheet.add((1, None)), 0)
            self.assertEqual(sheet.add((1, 5)), 1)
            self.assertEqual(sheet.rows, ((1, 5), (1, 5)))
            sheet.add((None, 7))
            sheet.put(2, 1, None)
            sheet[2, 0] = 1
            self.assertEqual(sheet.rows, ((1, 5),) * 3)

    def test_taken_back_together(self):
        for kind in WRITING:
            sheet = kind(2, ((0,), 1))
            sheet.add((1, None))
            sheet.add((1, 5))
            sheet.add((1, None))
            self.assertEqual(rows_back(sheet), [((1, 5),) * 3, ((1, 5),) * 2, ((1, None),), ()])

    def test_written_at_once_again(self):
        for kind in WRITING:
            sheet = made(kind, ((1, 5), (1, None)), (((0,), 1),), 2)
            sheet.put(0, 1, None)
            self.assertEqual(sheet.rows, ((1, 5), (1, 5)))
            self.assertEqual(rows_back(sheet), [((1, 5), (1, 5)), ((1, 5), (1, 5)), ()])

    def test_what_is_written_stays(self):
        for kind in WRITING:
            sheet = made(kind, ((1, 5), (1, None)), (((0,), 1),), 2)
            self.assertEqual(sheet.drop(0), (1, 5))
            self.assertEqual(sheet.rows, ((1, 5),))
            error = self.refused(Conflict, sheet, sheet.add, (1, 6))
            self.assertTrue(shows_verdict((2, ((1, 5), (1, 6))), sheet.rules, ("conflict", error.steps)))

    def test_a_strict_sheet_does_not_write(self):
        self.assertEqual(made(Strict, TABLE[1]).rows, TABLE[1])


class CountingTest(SheetCase):
    def test_each_change_counts(self):
        for kind in COUNTING:
            sheet = kind(2, ((0,), 1))
            self.assertEqual(sheet.changes, 0)
            for number, change in enumerate((
                lambda: sheet.add((1, 2)), lambda: sheet.add((3, None)), lambda: sheet.put(0, 0, 1),
                lambda: sheet.__setitem__((0, 1), 4), lambda: sheet.assign_rows(((7, 8), (9, None))),
                lambda: setattr(sheet, "rows", ((7, 8), (9, None))), lambda: sheet.drop(1),
            ), 1):
                change()
                self.assertEqual(sheet.changes, number)

    def test_refused_ones_do_not_count(self):
        for kind in COUNTING:
            sheet = made(kind, ((1, 2),) * 8, (((0,), 1),), 2)
            for error, action, arguments in (
                (NoRow, sheet.add, ((1,),)), (TooMany, sheet.add, ((1, 2),)), (NoNumber, sheet.drop, (8,)),
                (NoPlace, sheet.put, (8, 0, 1)), (NoCell, sheet.put, (0, 0, -1)), (NoTable, sheet.assign_rows, (None,)),
            ):
                self.refused(error, sheet, action, *arguments)
            self.assertEqual(sheet.changes, 1)
        sheet = made(CountingWriting, ((1, 2),), (((0,), 1),), 2)
        self.refused(Conflict, sheet, sheet.add, (1, 3))
        self.assertEqual(sheet.changes, 1)

    def test_undo_and_trying_do_not_change_it(self):
        for kind in COUNTING:
            sheet = kind(1)
            sheet.add((1,))
            sheet.add((2,))
            sheet.undo()
            self.assertEqual(sheet.changes, 2)
            with self.assertRaises(Stop):
                with sheet.trying():
                    self.assertEqual(sheet.changes, 2)
                    sheet.add((3,))
                    sheet.add((4,))
                    self.assertEqual(sheet.changes, 4)
                    raise Stop
            self.assertEqual((sheet.changes, len(sheet)), (4, 1))
            with sheet.trying():
                sheet.add((3,))
            self.assertEqual(sheet.changes, 5)
            self.assertRaises(NothingDone, lambda: [sheet.undo() for turn in range(9)])
            self.assertEqual(sheet.changes, 5)

    def test_a_change_that_writes_counts_once(self):
        sheet = made(CountingWriting, TABLE[1])
        self.assertEqual((sheet.changes, sheet.rows), (1, WRITTEN))

    def test_equal_whatever_was_counted(self):
        for kind in COUNTING:
            sheet = kind(1)
            sheet.add((1,))
            sheet.undo()
            self.assertEqual((sheet == kind(1), sheet.changes), (True, 1))


class Model:
    """A sheet in other words: all rows that were, and how many changes were made."""

    def __init__(self, kind, many, rules):
        self.kind = kind
        self.many = many
        self.rules = rules
        self.states = [()]
        self.made = 0

    def change(self, rows):
        """Whether the change is made."""
        if self.kind in STRICT and verdict((self.many, rows), self.rules)[0] == "conflict":
            return False
        if self.kind in WRITING:
            cells = [list(row) for row in rows]
            for row, column, value in certain((self.many, rows), self.rules):
                cells[row][column] = value
            rows = tuple(map(tuple, cells))
        self.states.append(rows)
        self.made += 1
        return True

    def undo(self):
        """Whether there is a change to take back."""
        if len(self.states) == 1:
            return False
        self.states.pop()
        return True


class WalkTest(SheetCase):
    """Long walks of changes, compared with the model."""

    def new_rows(self, walk, rows, many):
        """The name of a change, its arguments, and the rows behind it."""
        cell = walk.pick((None, 0, 1, 2))
        row = tuple(walk.pick((None, 0, 1, 2)) for column in range(many))
        choice = walk.number(8)
        if rows and choice < 2:
            number = walk.number(len(rows))
            return "drop", (number,), rows[:number] + rows[number + 1:]
        if rows and choice < 4:
            number, column = walk.number(len(rows)), walk.number(many)
            changed = rows[number][:column] + (cell,) + rows[number][column + 1:]
            return "put", (number, column, cell), rows[:number] + (changed,) + rows[number + 1:]
        if choice == 4:
            given = tuple(tuple(walk.pick((None, 0, 1)) for column in range(many)) for turn in range(walk.number(4)))
            return "assign_rows", (given,), given
        if len(rows) == 8:
            return "drop", (0,), rows[1:]
        return "add", (row,), rows + (row,)

    def turn(self, walk, sheet, model):
        """One change of both, or one undo of both."""
        before = model.states[-1]
        if walk.number(5) == 0:
            if model.undo():
                sheet.undo()
            else:
                self.assertRaises(NothingDone, sheet.undo)
            return
        name, arguments, rows = self.new_rows(walk, before, model.many)
        if model.change(rows):
            expected = {"add": len(before), "drop": before[arguments[0]] if name == "drop" else None}.get(name)
            self.assertEqual(getattr(sheet, name)(*arguments), expected)
        else:
            with self.assertRaises(Conflict) as caught:
                getattr(sheet, name)(*arguments)
            shown = ("conflict", caught.exception.steps)
            self.assertTrue(shows_verdict((model.many, rows), model.rules, shown))

    def compare(self, sheet, model):
        self.assertEqual(sheet.rows, model.states[-1])
        self.assertEqual(len(sheet), len(model.states[-1]))
        self.assertEqual(sheet.blank, sum(row.count(None) for row in model.states[-1]))
        if model.kind in COUNTING:
            self.assertEqual(sheet.changes, model.made)

    def test_walks(self):
        walk = Walk(72)
        for kind in CLASSES:
            for number in range(12):
                many = 1 + walk.number(3)
                rules = walk.rules(many, 3)
                sheet, model = kind(many, *rules), Model(kind, many, rules)
                for turn in range(60):
                    self.turn(walk, sheet, model)
                    self.compare(sheet, model)
                self.assertEqual(rows_back(sheet), model.states[::-1])

    def test_walks_in_blocks(self):
        walk = Walk(73)
        for kind in CLASSES:
            for number in range(25):
                many = 1 + walk.number(3)
                rules = walk.rules(many, 3)
                sheet, model = kind(many, *rules), Model(kind, many, rules)
                for turn in range(6):
                    states = list(model.states)
                    try:
                        with sheet.trying():
                            for step in range(walk.number(8)):
                                self.turn(walk, sheet, model)
                            if walk.number(2):
                                raise Stop
                    except Stop:
                        model.states = states
                    self.compare(sheet, model)
                self.assertEqual(rows_back(sheet), model.states[::-1])


if __name__ == "__main__":
    unittest.main()
