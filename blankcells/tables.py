"""Tables and rules: what they are, and whether rules hold in a full table."""

from blankcells.errors import NoFull, NoMany, NoPlace, NoRule, NoRules, NoTable

MOST_COLUMNS = 5
MOST_ROWS = 8
MOST_RULES = 8
HIGHEST_VALUE = 9999


def is_number(thing, low, high):
    """Whether thing is an integer from low to high."""
    # Python takes True and False for integers, the document does not.
    return isinstance(thing, int) and not isinstance(thing, bool) and low <= thing <= high


def is_number_set(thing, low, high):
    """Whether thing is a set of integers from low to high, perhaps empty."""
    if not isinstance(thing, tuple) or not all([is_number(number, low, high) for number in thing]):
        return False
    return all([number < behind for number, behind in zip(thing, thing[1:])])


def is_many(thing):
    """Whether thing is a number of columns."""
    return is_number(thing, 1, MOST_COLUMNS)


def is_column(many, thing):
    """Whether thing is one of many columns."""
    return is_number(thing, 0, many - 1)


def is_cell(thing):
    """Whether thing is a value or a blank."""
    return thing is None or is_number(thing, 0, HIGHEST_VALUE)


def is_row(many, thing):
    """Whether thing is a row of many columns."""
    return isinstance(thing, tuple) and len(thing) == many and all([is_cell(cell) for cell in thing])


def are_rows(many, thing):
    """Whether thing is the rows of a table of many columns."""
    return isinstance(thing, tuple) and len(thing) <= MOST_ROWS and all([is_row(many, row) for row in thing])


def is_table(thing):
    """Whether thing is a table."""
    return isinstance(thing, tuple) and len(thing) == 2 and is_many(thing[0]) and are_rows(thing[0], thing[1])


def is_place(table, thing):
    """Whether thing is a place of the table."""
    if not isinstance(thing, tuple) or len(thing) != 2:
        return False
    row, column = thing
    return is_number(row, 0, len(table[1]) - 1) and is_column(table[0], column)


def are_columns(many, thing):
    """Whether thing is a set of columns, perhaps empty."""
    return is_number_set(thing, 0, many - 1)


def is_rule(many, thing):
    """Whether thing is a rule of many columns."""
    if not isinstance(thing, tuple) or len(thing) != 2:
        return False
    given, then = thing
    return are_columns(many, given) and is_column(many, then) and then not in given


def are_rules(many, thing):
    """Whether thing is rules of many columns."""
    need_many(many)
    return isinstance(thing, tuple) and len(thing) <= MOST_RULES and all([is_rule(many, rule) for rule in thing])


def need_table(thing):
    """Raise NoTable for anything but a table."""
    if not is_table(thing):
        raise NoTable()


def need_many(thing):
    """Raise NoMany for anything but a number of columns."""
    if not is_many(thing):
        raise NoMany()


def need_rules(many, thing):
    """Raise NoRules for anything but rules of many columns."""
    if not are_rules(many, thing):
        raise NoRules()


def need_place(table, thing):
    """Raise NoPlace for anything but a place of the table."""
    if not is_place(table, thing):
        raise NoPlace()


def need_full(table):
    """Raise NoFull for a table with a blank."""
    if blanks(table):
        raise NoFull()


def blanks(table):
    """The places of the blanks, ascending."""
    need_table(table)
    return tuple([
        (row, column)
        for row, cells in enumerate(table[1])
        for column, cell in enumerate(cells)
        if cell is None
    ])


def with_cells(table, cells):
    """The table with these cells, by their places, in place of its own."""
    return (table[0], tuple([
        tuple([cells.get((row, column), cell) for column, cell in enumerate(old)])
        for row, old in enumerate(table[1])
    ]))


def keeps_values(rows, others):
    """Whether others, as many rows of the same columns, have each value of the rows in its place."""
    return all([
        cell is None or cell == other
        for cells, other_cells in zip(rows, others)
        for cell, other in zip(cells, other_cells)
    ])


def row_pairs(amount):
    """All pairs (row, other) of that amount of rows, row < other, ascending."""
    return [(row, other) for row in range(amount) for other in range(row + 1, amount)]


def equal_in(columns, cells, others):
    """Whether two rows are equal in all these columns."""
    return all([cells[column] == others[column] for column in columns])


def breaking_pairs(rows, rule):
    """The pairs of full rows that break the rule, ascending."""
    given, then = rule
    return tuple([
        (row, other)
        for row, other in row_pairs(len(rows))
        if equal_in(given, rows[row], rows[other]) and rows[row][then] != rows[other][then]
    ])


def hold_in(rows, rules):
    """Whether all rules hold in full rows."""
    return all([breaking_pairs(rows, rule) == () for rule in rules])


def holds(table, rules):
    """Whether all rules hold in a full table."""
    need_table(table)
    need_rules(table[0], rules)
    need_full(table)
    return hold_in(table[1], rules)


def breaking(table, rule):
    """The pairs of rows of a full table that break one rule, ascending."""
    need_table(table)
    if not is_rule(table[0], rule):
        raise NoRule()
    need_full(table)
    return breaking_pairs(table[1], rule)
