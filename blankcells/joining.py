"""Which cells of a column are joined.

Marks tell it: for each column a list with a mark for each row, the number of the first row of its
lot. Two cells of a column are joined exactly if they have the same mark.
"""

from blankcells.tables import need_rules, need_table, row_pairs


def value_marks(table):
    """The marks before any step: only cells with the same value are joined."""
    many, rows = table
    return [column_marks([cells[column] for cells in rows]) for column in range(many)]


def column_marks(cells):
    """The marks of one column before any step."""
    return [row if cell is None else cells.index(cell) for row, cell in enumerate(cells)]


def are_joined(marks, columns, row, other):
    """Whether the cells of two rows are joined in each of these columns."""
    return all([marks[column][row] == marks[column][other] for column in columns])


def join_cells(marks, column, row, other):
    """Join the lots of two cells of a column."""
    old = marks[column]
    kept = min(old[row], old[other])
    gone = max(old[row], old[other])
    marks[column] = [kept if mark == gone else mark for mark in old]


def join_by_rule(marks, rule, amount):
    """Take the possible steps of a rule over that amount of rows; whether one joined anything."""
    given, then = rule
    changed = False
    for row, other in row_pairs(amount):
        if are_joined(marks, given, row, other) and not are_joined(marks, (then,), row, other):
            join_cells(marks, then, row, other)
            changed = True
    return changed


def joined_marks(table, rules):
    """The marks after all possible steps."""
    marks = value_marks(table)
    amount = len(table[1])
    changed = True
    # A step may make steps of rules before it possible, so the rules are gone through again.
    while changed:
        changed = False
        for rule in rules:
            if join_by_rule(marks, rule, amount):
                changed = True
    return marks


def lots_of(marks):
    """The lots of one column, ascending, by its marks."""
    return tuple([
        tuple([row for row, mark in enumerate(marks) if mark == first])
        for first in sorted(set(marks))
    ])


def lots(table, rules):
    """For each column the lots of its cells that are joined by all possible steps, ascending."""
    need_table(table)
    need_rules(table[0], rules)
    return tuple([lots_of(marks) for marks in joined_marks(table, rules)])
