"""Tables that are cut into parts of their columns and put together again."""

from blankcells.errors import NoParts
from blankcells.fillings import general_filling
from blankcells.joining import joined_marks, joining_steps, known_rows, marks_behind, take_step, value_marks
from blankcells.tables import are_columns, blanks, hold_in, is_table, need_full, need_many, need_rules, need_table

MOST_PARTS = 5


def are_parts(many, thing):
    """Whether thing is parts of many columns."""
    if not isinstance(thing, tuple) or not 1 <= len(thing) <= MOST_PARTS:
        return False
    if not all([are_columns(many, part) and part != () for part in thing]):
        return False
    return all([any([column in part for part in thing]) for column in range(many)])


def need_parts(many, thing):
    """Raise NoParts for anything but parts of many columns."""
    if not are_parts(many, thing):
        raise NoParts()


def picked(cells, part):
    """The cells of a row in the columns of a part."""
    return tuple([cells[column] for column in part])


def piece_values(column, parts, pieces):
    """The values that pieces of the parts have in a column, ascending."""
    return sorted(set([
        piece[part.index(column)]
        for part, part_pieces in zip(parts, pieces)
        if column in part
        for piece in part_pieces
    ]))


def put_together(many, parts, pieces):
    """All rows, ascending, that have in the columns of each part one of the pieces of this part."""
    rows = [()]
    for column in range(many):
        values = piece_values(column, parts, pieces)
        rows = [(*start, value) for start in rows for value in values]
        for part, part_pieces in zip(parts, pieces):
            # A part is looked at as soon as the rows have all its columns, so that they stay few.
            if part[-1] == column:
                rows = [cells for cells in rows if picked(cells, part) in part_pieces]
    return tuple(rows)


def rejoined(table, parts):
    """All different rows that can be put together of the rows of a full table, ascending."""
    need_table(table)
    need_full(table)
    many, rows = table
    need_parts(many, parts)
    return put_together(many, parts, [[picked(cells, part) for cells in rows] for part in parts])


def small(many, parts):
    """The table with a row for each part: 0 in its columns, blanks elsewhere."""
    need_many(many)
    need_parts(many, parts)
    return (many, tuple([
        tuple([0 if column in part else None for column in range(many)]) for part in parts
    ]))


def has_zero_row(table, marks):
    """Whether some row of a small table is joined with the value 0 in every column."""
    # A small table has no other value than 0.
    return any([None not in cells for cells in known_rows(table, marks)])


def exact_steps(table, rules):
    """Possible steps, one after another, behind which a row of a small table is all 0; None without such."""
    marks = value_marks(table)
    taken = []
    for step in joining_steps(table, rules):
        if has_zero_row(table, marks):
            break
        take_step(marks, rules, step)
        taken.append(step)
    return tuple(taken) if has_zero_row(table, marks) else None


def split(many, rules, parts):
    """Whether tables in which the rules hold are put together exactly: the steps, or a table that is not."""
    need_many(many)
    need_rules(many, rules)
    need_parts(many, parts)
    table = small(many, parts)
    steps = exact_steps(table, rules)
    if steps is None:
        return ("table", general_filling(table, joined_marks(table, rules)))
    return ("exact", steps)


def are_exact_steps(table, rules, thing):
    """Whether thing is possible steps, one after another, behind which a row of a small table is all 0."""
    marks = marks_behind(table, rules, thing)
    return marks is not None and has_zero_row(table, marks)


def is_inexact(many, rules, parts, thing):
    """Whether thing is a full table in which the rules hold and of which another row can be put together."""
    if not is_table(thing) or thing[0] != many or blanks(thing) or not hold_in(thing[1], rules):
        return False
    return len(rejoined(thing, parts)) > len(set(thing[1]))


def shows_split(many, rules, parts, thing):
    """Whether thing is ("exact", any steps that show it), or ("table", any table that shows the contrary)."""
    need_many(many)
    need_rules(many, rules)
    need_parts(many, parts)
    if not isinstance(thing, tuple) or len(thing) != 2:
        return False
    word, shown = thing
    if word == "exact":
        return are_exact_steps(small(many, parts), rules, shown)
    return word == "table" and is_inexact(many, rules, parts, shown)
