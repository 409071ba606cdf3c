"""Where there is no filling: the smallest sets of values to take out, and the rows that clash."""

from blankcells.errors import NoNumber
from blankcells.joining import has_filling
from blankcells.tables import is_number, need_rules, need_table, with_cells

MOST_PLACES = 2


def tuples_in_order(things, most):
    """All ascending tuples of at most that many of the ascending things, the shorter ones first."""
    found = [()]
    longest = [()]
    for turn in range(most):
        longest = [
            (*start, thing) for start in longest for thing in things if start == () or start[-1] < thing
        ]
        found.extend(longest)
    return found


def has_one_of(chosen, found):
    """Whether chosen has all that one of those found has."""
    return any([all([thing in chosen for thing in one]) for one in found])


def value_places(table):
    """The places of the values, ascending."""
    return [
        (row, column)
        for row, cells in enumerate(table[1])
        for column, cell in enumerate(cells)
        if cell is not None
    ]


def only_rows(table, numbers):
    """The table of the rows with these numbers alone."""
    return (table[0], tuple([table[1][number] for number in numbers]))


def cleared(table, places):
    """The table with blanks at these places."""
    return with_cells(table, {place: None for place in places})


def clearing(table, rules, most):
    """The first places of values, in order, without which there is a filling; None if most are not enough."""
    # Of the first places none can be left out, as fewer ones would come before them.
    for places in clearings(table, rules, most):
        return places
    return None


def clashing(table, rules):
    """Yields, in order, all sets of rows that have no filling, but have one without any one of them."""
    need_table(table)
    need_rules(table[0], rules)
    found = []
    for numbers in tuples_in_order(list(range(len(table[1]))), len(table[1])):
        # More rows than such a set have no filling either, and one of them can be left out.
        if not has_one_of(numbers, found) and not has_filling(only_rows(table, numbers), rules):
            found.append(numbers)
            yield numbers


def clearings(table, rules, most):
    """Yields, in order, all places of values, at most so many, that all have to be blanks for a filling."""
    need_table(table)
    need_rules(table[0], rules)
    if not is_number(most, 0, MOST_PLACES):
        raise NoNumber()
    found = []
    for places in tuples_in_order(value_places(table), most):
        # With more blanks than such places there is a filling, too, and one of them can keep its value.
        if not has_one_of(places, found) and has_filling(cleared(table, places), rules):
            found.append(places)
            yield places
