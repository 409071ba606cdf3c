"""What every filling has, also if it is cut into parts of its columns and put together again."""

from blankcells.errors import NoColumns, NoRow
from blankcells.fillings import filling_marks, general_filling, is_filling
from blankcells.joining import known_rows
from blankcells.splits import need_parts, picked, put_together
from blankcells.tables import are_columns, is_row, need_rules, need_table


def need_columns(many, thing):
    """Raise NoColumns for anything but a set of columns."""
    if not are_columns(many, thing):
        raise NoColumns()


def need_values(columns, thing):
    """Raise NoRow for anything but a tuple with a value for each of the columns."""
    if not is_row(len(columns), thing) or None in thing:
        raise NoRow()


def sure_pieces(table, marks, columns):
    """All that are sure in these columns, ascending, by the marks after all possible steps."""
    pieces = [picked(cells, columns) for cells in known_rows(table, marks)]
    return sorted(set([piece for piece in pieces if None not in piece]))


def sure_rows(table, rules, columns):
    """The values, for these columns, that some row of every filling has, ascending."""
    need_table(table)
    need_rules(table[0], rules)
    need_columns(table[0], columns)
    return tuple(sure_pieces(table, filling_marks(table, rules), columns))


def lacking_marks(table, rules, columns, values):
    """The marks after all possible steps, once all arguments of lacking are checked."""
    need_table(table)
    need_rules(table[0], rules)
    need_columns(table[0], columns)
    need_values(columns, values)
    return filling_marks(table, rules)


def lacking(table, rules, columns, values):
    """Some filling that has no row with these values in these columns; None if the values are sure."""
    marks = lacking_marks(table, rules, columns, values)
    if values in sure_pieces(table, marks, columns):
        return None
    # As none of the new values is one of these, only a row that is joined with all of these has them.
    return general_filling(table, marks, values)


def shows_lacking(table, rules, columns, values, thing):
    """Whether thing is None and the values are sure, or any filling without a row that has them."""
    marks = lacking_marks(table, rules, columns, values)
    if thing is None:
        return values in sure_pieces(table, marks, columns)
    if not is_filling(table, rules, thing):
        return False
    return values not in [picked(cells, columns) for cells in thing[1]]


def sure_rejoined(table, rules, parts):
    """The rows of values that can be put together of the rows of every filling, ascending."""
    need_table(table)
    need_rules(table[0], rules)
    need_parts(table[0], parts)
    marks = filling_marks(table, rules)
    return put_together(table[0], parts, [sure_pieces(table, marks, part) for part in parts])
