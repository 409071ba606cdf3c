"""What a blank, and what two blanks together, can and cannot be."""

from blankcells.fillings import filling_marks
from blankcells.joining import are_joined, has_clash, has_filling, join_cells, known_rows, take_all_steps
from blankcells.tables import blanks, need_place, need_rules, need_table, with_cells


def certain(table, rules):
    """The places and the values of all blanks that have the same value in every filling, ascending."""
    need_table(table)
    need_rules(table[0], rules)
    known = known_rows(table, filling_marks(table, rules))
    return tuple([
        (row, column, known[row][column])
        for row, column in blanks(table)
        if known[row][column] is not None
    ])


def with_value(table, place, value):
    """The table with a value in place of a blank, or of the same value; None if it has another one there."""
    row, column = place
    cell = table[1][row][column]
    if cell is not None and cell != value:
        return None
    return with_cells(table, {place: value})


def can_be(table, rules, place, value):
    """Whether the cell has the value in some filling."""
    written = with_value(table, place, value)
    return written is not None and has_filling(written, rules)


def column_values(table, column):
    """The values that the table has in a column, ascending."""
    return sorted(set([cells[column] for cells in table[1] if cells[column] is not None]))


def column_relation(table, rules, marks, column, rows):
    """How two cells of one column are related, for the marks after all possible steps."""
    row, other = rows
    if are_joined(marks, (column,), row, other):
        return "always"
    more = list(marks)
    join_cells(more, column, row, other)
    take_all_steps(more, rules, len(table[1]))
    return "never" if has_clash(table, more) else "sometimes"


def known_relation(table, rules, value, place):
    """How a cell that is not certain is related to one of another column that always has the value."""
    return "sometimes" if can_be(table, rules, place, value) else "never"


def relation(table, rules, place, other):
    """Whether two cells are equal in all fillings ("always"), in none ("never"), or in some ("sometimes")."""
    need_table(table)
    need_rules(table[0], rules)
    need_place(table, place)
    need_place(table, other)
    marks = filling_marks(table, rules)
    if place[1] == other[1]:
        return column_relation(table, rules, marks, place[1], (place[0], other[0]))
    known = known_rows(table, marks)
    value = known[place[0]][place[1]]
    other_value = known[other[0]][other[1]]
    if value is None and other_value is None:
        return "sometimes"
    if value is None:
        return known_relation(table, rules, other_value, place)
    if other_value is None:
        return known_relation(table, rules, value, other)
    return "always" if value == other_value else "never"


def choices(table, rules, place):
    """("only", the value of the cell in every filling), or ("all but", the values it has in none)."""
    need_table(table)
    need_rules(table[0], rules)
    need_place(table, place)
    row, column = place
    known = known_rows(table, filling_marks(table, rules))
    if known[row][column] is not None:
        return ("only", known[row][column])
    return ("all but", tuple([
        value for value in column_values(table, column) if not can_be(table, rules, place, value)
    ]))


def possible_values(table, rules, place):
    """The values of its column that a cell has in some filling, ascending."""
    return [value for value in column_values(table, place[1]) if can_be(table, rules, place, value)]


def together(table, rules, place, other):
    """The pairs of values of which each cell has its own in some filling, but none has both, ascending."""
    need_table(table)
    need_rules(table[0], rules)
    need_place(table, place)
    need_place(table, other)
    # Its marks are not needed here, only NoFilling is.
    filling_marks(table, rules)
    other_values = possible_values(table, rules, other)
    pairs = []
    for value in possible_values(table, rules, place):
        written = with_value(table, place, value)
        pairs.extend([(value, worth) for worth in other_values if not can_be(written, rules, other, worth)])
    return tuple(pairs)
