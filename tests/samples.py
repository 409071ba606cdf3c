"""Values that several test files use."""

from itertools import combinations

from blankcells.errors import Conflict, NoTable, TooMany

NESTED = [[[[[[[[[[1]]]]]]]]]]

# None of these is a table or a rule; () is the only one that is rules, 1 the only number of columns.
ANY_VALUES = [
    None, True, False, 0, 1, -1, 6, 10000, -9999999999999, 9999999999999, "", "1", "columns 2\n1 -\n", "x" * 600,
    [], [1], [(1, 2)], [2, ((1, 2),)], {}, {0: 1}, {"many": 2, "rows": ()}, (), (1,), (1, 2), (1, 2, 3), (None,),
    ((), 0, 0), NESTED, tuple(range(2000)), list(range(2000)), {number: None for number in range(1000)},
    NoTable(), TooMany(9, 8), Conflict(((0, 0, 1),)),
]

# None of these is a rule or rules.
SOME_TABLES = [(1, ()), (5, ()), (2, ((1, 2), (1, None))), (3, ((1, 2, None), (1, None, 3), (None, 4, 5)))]


def all_rules(many):
    """Every rule of many columns."""
    return [
        (given, then)
        for size in range(many)
        for given in combinations(range(many), size)
        for then in range(many)
        if then not in given
    ]


def small_rule_tuples(many):
    """All tuples of at most two rules of many columns, and some longer ones."""
    rules = all_rules(many)
    pairs = [(first, second) for first in rules for second in rules]
    return [()] + [(rule,) for rule in rules] + pairs + [tuple(rules[:8]), tuple(rules[::-1][:8])]
