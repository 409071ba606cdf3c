"""What the document defines, found by trying, in other words than the program's."""

from itertools import product

from tests.samples import all_rules


def rules_hold(rows, rules):
    """Whether rules hold in full rows: each given cells are seen with one cell behind them only."""
    for given, then in rules:
        seen = {}
        for row in rows:
            if seen.setdefault(tuple(row[column] for column in given), row[then]) != row[then]:
                return False
    return True


def blank_places(table):
    """The places of the blanks, ascending."""
    many, rows = table
    return [(row, column) for row in range(len(rows)) for column in range(many) if rows[row][column] is None]


def values_in(table):
    """The values that occur in a table, ascending."""
    return sorted({cell for row in table[1] for cell in row} - {None})


def enough_values(table):
    """The values of a table and one more others than it has blanks.

    Other values than these can be exchanged for these in any filling, as it has no more other ones,
    and one of these is left to show that a blank with another value is not certain.
    """
    used = values_in(table)
    others = [value for value in range(80) if value not in used]
    return sorted(used + others[:len(blank_places(table)) + 1])


def all_full(table, values):
    """All tables with one of these values in the place of each blank."""
    many, rows = table
    places = blank_places(table)
    found = []
    for choice in product(values, repeat=len(places)):
        cells = [list(row) for row in rows]
        for (row, column), value in zip(places, choice):
            cells[row][column] = value
        found.append((many, tuple(tuple(row) for row in cells)))
    return found


def fillings_by_trying(table, rules, values):
    """All fillings of a table with these values, by trying each."""
    return [full for full in all_full(table, values) if rules_hold(full[1], rules)]


def small_tables(many, amount, cells):
    """All tables of that many columns and that amount of rows, with these cells."""
    for chosen in product(cells, repeat=many * amount):
        yield (many, tuple(chosen[at * many:(at + 1) * many] for at in range(amount)))


def value_pairs(table):
    """The joined pairs before any step, as (column, row, other), also row == other."""
    many, rows = table
    numbers = range(len(rows))
    return {
        (column, row, other)
        for column in range(many) for row in numbers for other in numbers
        if row == other or (rows[row][column] is not None and rows[row][column] == rows[other][column])
    }


def pairs_with(joined, column, row, other):
    """The joined pairs when two more cells of a column are joined: all cells of both lots."""
    lot = {second for at, first, second in joined if at == column and first in (row, other)}
    return joined | {(column, first, second) for first in lot for second in lot}


def pairs_behind(table, rules, steps):
    """The joined pairs behind these steps; None if one of them is not possible."""
    joined = value_pairs(table)
    for number, row, other in steps:
        given, then = rules[number]
        if not all((column, row, other) in joined for column in given):
            return None
        joined = pairs_with(joined, then, row, other)
    return joined


def have_clash(table, joined):
    """Whether two different values are joined."""
    rows = table[1]
    return any(
        None not in (rows[row][column], rows[other][column]) and rows[row][column] != rows[other][column]
        for column, row, other in joined
    )


def all_steps(rules, amount):
    """All steps of these rules over that amount of rows, possible or not."""
    return [
        (number, row, other)
        for number in range(len(rules)) for other in range(amount) for row in range(other)
    ]


def rejoined_by_trying(table, parts):
    """The rows that can be put together, by trying all rows of the values of each column."""
    many, rows = table
    return tuple(
        row for row in product(*[sorted({row[column] for row in rows}) for column in range(many)])
        if all(any(all(row[at] == other[at] for at in part) for other in rows) for part in parts)
    )


class Walk:
    """A fixed walk through numbers, which stands for a choice where there are too many cases."""

    def __init__(self, state=1):
        self.state = state

    def number(self, limit):
        self.state = (self.state * 1103515245 + 12345) & 0x7FFFFFFF
        return (self.state >> 16) % limit

    def pick(self, choice):
        return choice[self.number(len(choice))]

    def rules(self, many, most=4):
        choice = all_rules(many)
        return tuple(self.pick(choice) for turn in range(self.number(most + 1)))

    def full_table(self, many, amount, values):
        return (many, tuple(tuple(self.pick(values) for column in range(many)) for row in range(amount)))

    def table(self, many, amount, values, most_blanks):
        rows = [list(row) for row in self.full_table(many, amount, values)[1]]
        for turn in range(most_blanks):
            rows[self.number(amount)][self.number(many)] = None
        return (many, tuple(tuple(row) for row in rows))

    def parts(self, many):
        while True:
            parts = []
            for turn in range(1 + self.number(5)):
                part = tuple(column for column in range(many) if self.number(2))
                parts.append(part or (self.number(many),))
            if set().union(*parts) == set(range(many)):
                return tuple(parts)
