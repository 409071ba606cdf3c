"""Which cells of a column are joined.

Marks tell it: for each column a list with a mark for each row, the number of the first row of its
lot. Two cells of a column are joined exactly if they have the same mark.
"""

from blankcells.tables import is_number, keeps_values, need_rules, need_table, row_pairs


def value_marks(table):
    """The marks before any step: only cells with the same value are joined."""
    many, rows = table
    return [column_marks([cells[column] for cells in rows]) for column in range(many)]


def column_marks(cells):
    """The marks of one column before any step."""
    return [row if cell is None else cells.index(cell) for row, cell in enumerate(cells)]


def are_joined(marks, columns, row, other):
    """Whether the cells of two rows are joined in each of these columns."""
    return all([marks[column][row] == marks[column][other] for column in columns])


def join_cells(marks, column, row, other):
    """Join the lots of two cells of a column."""
    old = marks[column]
    kept = min(old[row], old[other])
    gone = max(old[row], old[other])
    marks[column] = [kept if mark == gone else mark for mark in old]


def is_step(rules, amount, thing):
    """Whether thing is a step of these rules over that amount of rows, possible or not."""
    if not isinstance(thing, tuple) or len(thing) != 3:
        return False
    number, row, other = thing
    if not is_number(number, 0, len(rules) - 1) or not is_number(row, 0, amount - 1):
        return False
    return is_number(other, row + 1, amount - 1)


def is_possible(marks, rules, step):
    """Whether a step is possible."""
    number, row, other = step
    return are_joined(marks, rules[number][0], row, other)


def take_step(marks, rules, step):
    """Join what a possible step joins."""
    number, row, other = step
    join_cells(marks, rules[number][1], row, other)


def take_rule_steps(marks, rules, number, amount):
    """Take the possible steps of one rule that join anything; these steps."""
    then = rules[number][1]
    taken = []
    for row, other in row_pairs(amount):
        step = (number, row, other)
        if is_possible(marks, rules, step) and not are_joined(marks, (then,), row, other):
            take_step(marks, rules, step)
            taken.append(step)
    return taken


def take_all_steps(marks, rules, amount):
    """Take possible steps until no other one joins anything; the steps that were taken."""
    taken = []
    before = -1
    # A step may make steps of rules before it possible, so the rules are gone through again.
    while before != len(taken):
        before = len(taken)
        for number in range(len(rules)):
            taken.extend(take_rule_steps(marks, rules, number, amount))
    return taken


def joined_marks(table, rules):
    """The marks after all possible steps."""
    marks = value_marks(table)
    take_all_steps(marks, rules, len(table[1]))
    return marks


def joining_steps(table, rules):
    """Possible steps, one after another, that join all that can be joined, each of them something."""
    return take_all_steps(value_marks(table), rules, len(table[1]))


def marks_behind(table, rules, thing):
    """The marks behind steps that are possible one after another; None if thing is not such steps."""
    if not isinstance(thing, tuple):
        return None
    marks = value_marks(table)
    for step in thing:
        if not is_step(rules, len(table[1]), step) or not is_possible(marks, rules, step):
            return None
        take_step(marks, rules, step)
    return marks


def lot_values(table, marks):
    """For each column the values of the lots that have one, by their marks."""
    many, rows = table
    return [
        {mark: cells[column] for mark, cells in zip(marks[column], rows) if cells[column] is not None}
        for column in range(many)
    ]


def known_rows(table, marks):
    """The rows with the value of its lot in each cell, None where the lot has no value."""
    many, rows = table
    values = lot_values(table, marks)
    return tuple([
        tuple([values[column].get(marks[column][row]) for column in range(many)])
        for row in range(len(rows))
    ])


def has_clash(table, marks):
    """Whether two different values are joined."""
    # A lot with two different values has only one of them in the known rows.
    return not keeps_values(table[1], known_rows(table, marks))


def has_filling(table, rules):
    """Whether the table has a filling."""
    return not has_clash(table, joined_marks(table, rules))


def lots_of(marks):
    """The lots of one column, ascending, by its marks."""
    return tuple([
        tuple([row for row, mark in enumerate(marks) if mark == first])
        for first in sorted(set(marks))
    ])


def lots(table, rules):
    """For each column the lots of its cells that are joined by all possible steps, ascending."""
    need_table(table)
    need_rules(table[0], rules)
    return tuple([lots_of(marks) for marks in joined_marks(table, rules)])
