"""All exceptions of the package."""


class BlankError(ValueError):
    """The base of all exceptions of the package."""


class NoTable(BlankError):
    """Not a table, or not the rows of a table of these columns."""


class NoMany(BlankError):
    """Not a number of columns."""


class NoRules(BlankError):
    """Not rules of these columns."""


class NoRule(BlankError):
    """Not a rule of these columns."""


class NoFull(BlankError):
    """A table that should be full has a blank."""


class NoPlace(BlankError):
    """Not a place of the table."""


class NoRow(BlankError):
    """Not a row, or not a value for each of the columns."""


class NoCell(BlankError):
    """Neither a value nor a blank."""


class NoValues(BlankError):
    """Not a set of one to four values."""


class NoColumns(BlankError):
    """Not a set of columns."""


class NoParts(BlankError):
    """Not parts of these columns."""


class NoNumber(BlankError):
    """Not a number in the range that is asked for."""


class NoFilling(BlankError):
    """The table has no filling."""


class NoText(BlankError):
    """Not the text of a table or of rules."""


class NothingDone(BlankError):
    """There is no change to take back."""


class TooMany(BlankError):
    """There are more than the limit: the amount that there is, and the limit."""

    def __init__(self, amount, limit):
        super().__init__(f"{amount} are more than {limit}")
        self.amount = amount
        self.limit = limit


class Conflict(BlankError):
    """A change would leave no filling: some steps that join two different values."""

    def __init__(self, steps):
        super().__init__("two different values are joined")
        self.steps = steps
