"""Sheets: rows that can be changed, with changes that can be taken back."""

from blankcells.errors import Conflict, NoCell, NoNumber, NoRow, NothingDone, NoTable, TooMany
from blankcells.fillings import conflict_steps, filling_marks
from blankcells.joining import joined_marks, known_rows
from blankcells.tables import (
    MOST_ROWS, are_rows, blanks, is_cell, is_number, is_row, need_many, need_place, need_rules, with_cells,
)


class Trying:
    """A block that leaves its sheet as it found it if an exception leaves the block."""

    def __init__(self, sheet):
        self.sheet = sheet
        self.held = ()
        self.past = []

    def __enter__(self):
        self.held = self.sheet.held
        # The block may take back changes from before it, so all of them are kept.
        self.past = list(self.sheet.past)
        return self.sheet

    def __exit__(self, kind, value, trace):
        if kind is not None:
            self.sheet.held = self.held
            self.sheet.past = self.past


class Sheet:
    """Rows of a table that can be changed."""

    # A sheet cannot ask for its class, so each class tells its name for == and repr.
    NAME = "Sheet"

    def __init__(self, many, *rules):
        need_many(many)
        need_rules(many, rules)
        self.columns = many
        self.kept_rules = rules
        self.held = ()
        self.past = []

    @property
    def many(self):
        """The number of columns."""
        return self.columns

    @property
    def rules(self):
        """The rules."""
        return self.kept_rules

    @property
    def table(self):
        """The table of the rows."""
        return (self.columns, self.held)

    @property
    def blank(self):
        """The number of blanks."""
        return len(blanks(self.table))

    @property
    def rows(self):
        """The rows."""
        return self.held

    @rows.setter
    def rows(self, value):
        self.assign_rows(value)

    def assign_rows(self, rows):
        """Take these rows in place of all."""
        if not are_rows(self.columns, rows):
            raise NoTable()
        self.change(rows)

    def add(self, row):
        """Add a row at the end; its number."""
        if not is_row(self.columns, row):
            raise NoRow()
        number = len(self.held)
        if number == MOST_ROWS:
            raise TooMany(number + 1, MOST_ROWS)
        self.change((*self.held, row))
        return number

    def drop(self, number):
        """Take a row out; this row."""
        if not is_number(number, 0, len(self.held) - 1):
            raise NoNumber()
        row = self.held[number]
        self.change(self.held[:number] + self.held[number + 1:])
        return row

    def put(self, row, column, cell):
        """Change a cell to a value or a blank."""
        self[row, column] = cell

    def undo(self):
        """Take back the last change that was not taken back."""
        if not self.past:
            raise NothingDone()
        self.held = self.past.pop()

    def trying(self):
        """A context manager for a block that is taken back if an exception leaves it."""
        return Trying(self)

    def change(self, rows):
        """Keep these rows, which are those of a table; every change ends here."""
        self.past.append(self.held)
        self.held = rows

    def __getitem__(self, at):
        need_place(self.table, at)
        row, column = at
        return self.held[row][column]

    def __setitem__(self, at, worth):
        need_place(self.table, at)
        if not is_cell(worth):
            raise NoCell()
        self.change(with_cells(self.table, {at: worth})[1])

    # Without this, Python would take a sheet for a sequence, because of its cells in brackets.
    def __iter__(self):
        raise TypeError("a sheet is not iterated over")

    def __call__(self, row, column):
        """The value that a cell has in every filling, None without such a value."""
        need_place(self.table, (row, column))
        return known_rows(self.table, filling_marks(self.table, self.kept_rules))[row][column]

    def __len__(self):
        return len(self.held)

    def __contains__(self, x):
        # Python takes True for 1, so what is looked for has to be a row.
        return is_row(self.columns, x) and x in self.held

    def __eq__(self, other):
        return (
            isinstance(other, Sheet) and self.NAME == other.NAME
            and self.columns == other.columns and self.kept_rules == other.kept_rules and self.held == other.held
        )

    def __repr__(self):
        return f"{self.NAME}({len(self.held)} rows, {self.blank} blanks)"


class Strict(Sheet):
    """A sheet that refuses each change after which there would be no filling."""

    NAME = "Strict"

    def __init__(self, many, *rules):
        super().__init__(many, *rules)

    def change(self, rows):
        """Keep these rows, if they have a filling."""
        steps = conflict_steps((self.columns, rows), self.kept_rules)
        if steps is not None:
            raise Conflict(steps)
        super().change(rows)


class Writing(Strict):
    """A strict sheet that writes the certain blanks with each change."""

    NAME = "Writing"

    def __init__(self, many, *rules):
        super().__init__(many, *rules)

    def change(self, rows):
        """Keep these rows, if they have a filling, with the value of each certain blank."""
        super().change(rows)
        self.held = known_rows(self.table, joined_marks(self.table, self.kept_rules))


class Counting(Sheet):
    """A sheet that counts its changes."""

    NAME = "Counting"

    def __init__(self, many, *rules):
        super().__init__(many, *rules)
        self.made = 0

    @property
    def changes(self):
        """The number of changes that were made, also of those taken back."""
        return self.made

    def change(self, rows):
        """Keep these rows, and count the change unless it is refused."""
        super().change(rows)
        self.made += 1


class CountingWriting(Counting, Writing):
    """A sheet that counts its changes, refuses those without a filling, and writes the certain blanks."""

    NAME = "CountingWriting"

    def __init__(self, many, *rules):
        super().__init__(many, *rules)

    @property
    def changes(self):
        """The number of changes that were made, also of those taken back."""
        return self.made
