"""Values that several test files use."""

from itertools import combinations, product

from blankcells.errors import Conflict, NoMany, NoParts, NoPlace, NoRule, NoTable, TooMany
from blankcells.sheets import Counting, Sheet, Writing

NESTED = [[[[[[[[[[1]]]]]]]]]]


def some_sheet():
    """A sheet with two rows and a blank."""
    sheet = Counting(2, ((0,), 1))
    sheet.rows = ((1, 2), (3, None))
    return sheet


# None of these is a table or a rule; () is the only one that is rules, 1 the only number of columns.
ANY_VALUES = [
    None, True, False, 0, 1, -1, 6, 10000, -9999999999999, 9999999999999, "", "1", "columns 2\n1 -\n", "x" * 600,
    [], [1], [(1, 2)], [2, ((1, 2),)], {}, {0: 1}, {"many": 2, "rows": ()}, (), (1,), (1, 2), (1, 2, 3), (None,),
    ((), 0, 0), NESTED, tuple(range(2000)), list(range(2000)), {number: None for number in range(1000)},
    NoTable(), TooMany(9, 8), Conflict(((0, 0, 1),)), Sheet(2), some_sheet(), Writing(1, ((), 0)), Sheet(1).trying(),
    [some_sheet()], (some_sheet(), 0), {"sheet": Sheet(3)},
]

# None of these is a rule or rules.
SOME_TABLES = [(1, ()), (5, ()), (2, ((1, 2), (1, None))), (3, ((1, 2, None), (1, None, 3), (None, 4, 5)))]

# None of these is a table.
WRONG_TABLES = [
    # the pair itself
    (), (2,), (2, (), ()), [2, ()], (None, ()), ((), 2), {2: ()}, "2", (2, None), (2, 0), (2, "rows"),
    # the number of columns
    (0, ()), (6, ()), (-1, ()), (0, ((),)), (6, ((1, 2, 3, 4, 5, 6),)), (9999999999999, ()), (True, ()),
    (True, ((1,),)), (False, ()), ("1", ()), ((1,), ()),
    # the rows
    (2, []), (2, {}), (2, [(1, 2)]), (2, ""), (2, {0: (1, 2)}), (2, (1, 2)), (2, (None, None)),
    (2, ((1, 2),) * 9), (1, ((None,),) * 9), (5, ((0, 1, 2, 3, 4),) * 9), (2, ((1, 2),) * 2000),
    # a row
    (2, ((1,),)), (2, ((1, 2, 3),)), (2, ((),)), (2, ([1, 2],)), (2, ("12",)), (2, ({0: 1, 1: 2},)), (2, (None,)),
    (2, ((1, 2), (1,))), (2, ((1, 2), (1, 2, None))), (2, ((1, 2), [1, 2])), (2, ((1, 2), None)),
    (1, ((),)), (1, ((1, 2),)), (5, ((1, 2, 3, 4),)), (5, ((1, 2, 3, 4, 5, 6),)),
    # a cell
    (2, ((-1, 2),)), (2, ((1, -1),)), (2, ((10000, 2),)), (2, ((1, 10000),)), (2, ((1, 9999999999999),)),
    (2, ((True, 2),)), (2, ((1, False),)), (2, ((1, "2"),)), (2, ((1, ""),)), (2, ((1, ()),)), (2, (([], 1),)),
    (2, (({}, 1),)), (2, ((1, 2), (1, True))), (1, ((0,),) * 7 + ((-1,),)), (5, ((0, 0, 0, 0, True),)),
    (2, ((1, NoTable()),)),
]

# (many, what is no rule of many columns)
WRONG_RULES = [
    # the pair itself
    (2, ()), (2, ((0,),)), (2, ((0,), 1, 1)), (2, [(0,), 1]), (2, "01"), (2, {0: 1}), (2, None), (2, 1), (2, True),
    (2, (1, (0,))), (2, ((), ())), (2, ((((0,), 1)),) * 2),
    # the given columns
    (3, ((1, 0), 2)), (3, ((0, 0), 2)), (3, ((1, 1), 2)), (3, ((0, 1, 1), 2)), (4, ((0, 2, 1), 3)), (2, ((2,), 1)),
    (2, ((-1,), 1)), (2, ((0, 2), 1)), (5, ((5,), 1)), (5, ((0, 1, 2, 3, 5), 4)), (1, ((1,), 0)), (2, ([0], 1)),
    (2, ([], 1)), (2, ({0: 0}, 1)), (2, ({}, 1)), (2, ("0", 1)), (2, ("", 1)), (2, (0, 1)), (2, (None, 1)),
    (2, ((None,), 1)), (2, (("0",), 1)), (2, ((False,), 1)), (3, ((False, True), 2)), (3, ((0, True), 2)),
    (3, ((0, "1"), 2)), (3, ((None, 0), 2)), (2, (((0,),), 1)), (2, ((False, 0), 1)), (2, (tuple(range(2000)), 1)),
    # the column behind them
    (2, ((0,), 0)), (2, ((1,), 1)), (3, ((0, 1), 1)), (3, ((0, 1), 0)), (1, ((0,), 0)), (5, ((0, 1, 2, 3, 4), 4)),
    (2, ((0,), 2)), (2, ((0,), -1)), (2, ((), 2)), (2, ((), -1)), (1, ((), 1)), (5, ((), 5)), (2, ((), 9999999999999)),
    (2, ((0,), True)), (2, ((1,), False)), (2, ((), False)), (2, ((0,), "1")), (2, ((0,), None)), (2, ((0,), (1,))),
    (2, ((0,), [1])), (2, ((), NoRule())),
]

# None of these is a number of columns.
WRONG_MANY = [
    0, 6, -1, 7, 10000, 9999999999999, -9999999999999, True, False, None, "", "2", (), (2,), [], [2], {}, {2: 2},
    NoMany(), (((0,), 1), ((1,), 2)), (3, ((1, 2, None), (1, None, 3), (None, 4, 5))),
]

# (many, what is no parts of many columns)
WRONG_PARTS = [
    # the tuple itself
    (1, ()), (2, ()), (2, ((0, 1),) * 6), (1, ((0,),) * 6), (2, ((0, 1),) * 2000), (2, [(0, 1)]), (2, {0: (0, 1)}),
    (2, None), (2, 0), (2, "01"), (2, True), (2, (0, 1)), (1, (0,)), (2, []), (2, {}),
    # not all columns
    (2, ((0,),)), (2, ((1,),)), (3, ((0, 1),)), (3, ((0, 1), (1,))), (3, ((0, 2), (0,), (2,))), (5, ((0, 1, 2, 3),)),
    (5, ((1, 2, 3, 4),)), (5, ((0,), (1,), (2,), (3,), (3,))),
    # an empty part
    (1, ((),)), (2, ((0, 1), ())), (2, ((), (0, 1))), (1, ((0,), ())), (5, ((0, 1, 2, 3, 4), (), (0,))),
    # a part that is no set of columns
    (2, ((1, 0),)), (2, ((0, 0, 1),)), (2, ((0, 1, 1),)), (2, ((0, 1), (0, 0))), (2, ((0, 1, 2),)), (2, ((-1, 0, 1),)),
    (2, ((0, 1), (2,))), (1, ((0, 1),)), (2, ([0, 1],)), (2, ((0, 1), [0])), (2, ("01",)), (2, ((0, True),)),
    (2, ((False, 1),)), (2, ((0, 1), (True,))), (1, ((False,),)), (2, ((0, 1), None)), (2, ((0, 1), 0)),
    (2, (("0", 1),)), (2, ((0, None),)), (2, (((0,), 1),)), (2, ((0, 1), (9999999999999,))), (2, (tuple(range(2000)),)),
    (2, ((0, 1), NoParts())), (2, ((0, 1), (NoParts(),))), (2, ((0, 1), {0: 0})),
]

# None of these is a place of a table with three rows and three columns.
WRONG_PLACES = [
    (3, 0), (0, 3), (-1, 0), (0, -1), (3, 3), (-3, -3), (0,), (0, 0, 0), [0, 0], (True, 0), (0, True), (False, 0),
    (0, False), (False, False), ("0", 0), (0, "0"), "00", {0: 0}, 0, None, (None, 0), (0, None), ((0, 0),), ((0,), 0),
    (0, (0,)), ([0], 0), (0, [0]), (9999999999999, 0), (0, 9999999999999), (0, NoPlace()), (), True,
]


def all_rules(many):
    """Every rule of many columns."""
    return [
        (given, then)
        for size in range(many)
        for given in combinations(range(many), size)
        for then in range(many)
        if then not in given
    ]


def small_rule_tuples(many):
    """All tuples of at most two rules of many columns, and some longer ones."""
    rules = all_rules(many)
    pairs = [(first, second) for first in rules for second in rules]
    return [()] + [(rule,) for rule in rules] + pairs + [tuple(rules[:8]), tuple(rules[::-1][:8])]


def all_parts(many, most):
    """All parts of many columns, at most that many of them."""
    columns = [part for size in range(1, many + 1) for part in combinations(range(many), size)]
    return [
        parts
        for amount in range(1, most + 1)
        for parts in product(columns, repeat=amount)
        if set().union(*parts) == set(range(many))
    ]
