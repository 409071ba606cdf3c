"""Fillings of a table: the general one, whether there is one, and all with few values."""

from blankcells.errors import NoFilling, NoValues, TooMany
from blankcells.joining import has_clash, joined_marks, joining_steps, known_rows, marks_behind, take_step, value_marks
from blankcells.tables import (
    HIGHEST_VALUE, blanks, hold_in, is_number_set, is_table, keeps_values, need_rules, need_table, with_cells,
)

MOST_VALUES = 4
MOST_BLANKS = 6


def filling_marks(table, rules):
    """The marks after all possible steps, for a table that has a filling; NoFilling for another one."""
    marks = joined_marks(table, rules)
    if has_clash(table, marks):
        raise NoFilling()
    return marks


def new_values(table, marks, avoided):
    """New values for the lots without a value, by their first places; none of those to be avoided."""
    many, rows = table
    known = known_rows(table, marks)
    # A lot has the number of its first row as its mark.
    firsts = [
        (row, column)
        for row in range(len(rows))
        for column in range(many)
        if marks[column][row] == row and known[row][column] is None
    ]
    used = [cell for cells in rows for cell in cells] + list(avoided)
    # There are as many numbers here as cells and avoided ones, so enough of them are left for the lots.
    unused = [number for number in range(many * len(rows) + len(avoided)) if number not in used]
    return dict(zip(firsts, unused))


def general_filling(table, marks, avoided=()):
    """The general filling, or the same without some new values, for the marks after all possible steps.

    The steps do not join two different values.
    """
    values = new_values(table, marks, avoided)
    known = (table[0], known_rows(table, marks))
    return with_cells(known, {
        (row, column): values[(marks[column][row], column)] for row, column in blanks(known)
    })


def general(table, rules):
    """The general filling."""
    need_table(table)
    need_rules(table[0], rules)
    return general_filling(table, filling_marks(table, rules))


def conflict_steps(table, rules):
    """Steps, possible one after another, up to the first that joins two different values; None without such."""
    marks = value_marks(table)
    taken = []
    for step in joining_steps(table, rules):
        take_step(marks, rules, step)
        taken.append(step)
        if has_clash(table, marks):
            return tuple(taken)
    return None


def verdict(table, rules):
    """The general filling, or steps at whose end two different values are joined."""
    need_table(table)
    need_rules(table[0], rules)
    steps = conflict_steps(table, rules)
    if steps is None:
        return ("filling", general_filling(table, joined_marks(table, rules)))
    return ("conflict", steps)


def is_filling(table, rules, thing):
    """Whether thing is a filling of the table."""
    if not is_table(thing) or thing[0] != table[0] or len(thing[1]) != len(table[1]) or blanks(thing):
        return False
    return keeps_values(table[1], thing[1]) and hold_in(thing[1], rules)


def are_conflict_steps(table, rules, thing):
    """Whether thing is steps, possible one after another, at whose end two different values are joined."""
    marks = marks_behind(table, rules, thing)
    return marks is not None and has_clash(table, marks)


def shows_verdict(table, rules, thing):
    """Whether thing is ("filling", any filling), or ("conflict", any steps that show that there is none)."""
    need_table(table)
    need_rules(table[0], rules)
    if not isinstance(thing, tuple) or len(thing) != 2:
        return False
    word, shown = thing
    if word == "filling":
        return is_filling(table, rules, shown)
    return word == "conflict" and are_conflict_steps(table, rules, shown)


def tuples_of(values, length):
    """All tuples of that length of these values; ascending, if the values are."""
    found = [()]
    for turn in range(length):
        found = [(*start, value) for start in found for value in values]
    return found


def fillings(table, rules, values):
    """Yields all fillings that have only these values in the places of the blanks, ascending."""
    need_table(table)
    need_rules(table[0], rules)
    if not is_number_set(values, 0, HIGHEST_VALUE) or not 1 <= len(values) <= MOST_VALUES:
        raise NoValues()
    places = blanks(table)
    if len(places) > MOST_BLANKS:
        raise TooMany(len(places), MOST_BLANKS)
    # The places ascend by row, then by column, so the tables ascend like the tuples of their values.
    for chosen in tuples_of(values, len(places)):
        full = with_cells(table, dict(zip(places, chosen)))
        if hold_in(full[1], rules):
            yield full
