"""Tables, kinds and values that several tests use, and helpers over them."""

import copy
import itertools

from tests.oracle import states_of


def set_table(sets):
    """The table of joins of closed sets: the least of the sets that holds both."""
    told = sorted([frozenset(each) for each in sets], key=lambda each: (len(each), sorted(each)))

    def hull(members):
        return min((at for at, each in enumerate(told) if members <= each), key=lambda at: len(told[at]))

    return [[hull(one | other) for other in told] for one in told]


def renumbered(table, order):
    """The table with the state at order[k] called k; order begins with 0."""
    place = {old: new for new, old in enumerate(order)}
    return [[place[table[one][other]] for other in order] for one in order]


def chain_table(many):
    return [[max(one, other) for other in range(many)] for one in range(many)]


def gem_table(many):
    """0, then so many states beside one another, then the greatest one."""
    top = many + 1
    return [
        [one if one == other else max(one, other) if 0 in (one, other) else top for other in range(top + 1)]
        for one in range(top + 1)
    ]


def small_tables(most):
    """All tables of at most so many states, found by trying all symmetric squares."""
    found = []
    for many in range(1, most + 1):
        pairs = list(itertools.combinations(range(1, many), 2))
        for worths in itertools.product(range(many), repeat=len(pairs)):
            rows = [[max(one, other) if 0 in (one, other) else one for other in range(many)] for one in range(many)]
            for (one, other), worth in zip(pairs, worths):
                rows[one][other] = rows[other][one] = worth
            if is_associative(rows):
                found.append(rows)
    return found


def is_associative(rows):
    triples = itertools.product(range(len(rows)), repeat=3)
    return all(rows[rows[a][b]][c] == rows[a][rows[b][c]] for a, b, c in triples)


DIAMOND = gem_table(3)
SQUARE = [[0, 1, 2, 3], [1, 1, 3, 3], [2, 3, 2, 3], [3, 3, 3, 3]]
CUBE = [[one | other for other in range(8)] for one in range(8)]
CHAIN = chain_table(8)
GEMS = gem_table(6)
# 0 < 1 < 2 < 4 and 0 < 3 < 4
PENTAGON = [[0, 1, 2, 3, 4], [1, 1, 2, 4, 4], [2, 2, 2, 4, 4], [3, 4, 4, 3, 4], [4, 4, 4, 4, 4]]
# Rows of neighbours of three points in a line: single lists, but not distributive.
SPANS = set_table([[], [1], [2], [3], [1, 2], [2, 3], [1, 2, 3]])
POINT = [[0]]
TWO = [[0, 1], [1, 1]]
BIG_TABLES = [
    CUBE,
    CHAIN,
    GEMS,
    SPANS,
    renumbered(CUBE, [0, 7, 6, 5, 4, 3, 2, 1]),
    renumbered(SPANS, [0, 6, 2, 5, 1, 4, 3]),
    set_table([[], [1], [2], [1, 2], [3], [1, 2, 3], [1, 2, 3, 4]]),
    set_table([[], [1], [2], [3], [4], [1, 2], [3, 4], [1, 2, 3, 4]]),
    set_table([[], [1], [1, 2], [1, 3], [1, 4], [1, 2, 3], [1, 3, 4], [1, 2, 3, 4]]),
]

FLAG = ("row", 2)
BAG = ("map", FLAG)
NAMES = ("map", ("count",))
STEPS = ("tops", 3, [(0, 1)])
FORK = ("tops", 4, [(0, 1), (0, 2), (1, 3)])
FULL_TIES = [(low, high) for low in range(6) for high in range(low + 1, 6)]
FULL = ("tops", 6, FULL_TIES)
LOOSE = ("tops", 6, [])
ONE_STATE = [
    ("row", 1),
    ("tops", 0, []),
    ("table", POINT),
    ("map", ("row", 1)),
    ("map", ("map", ("map", ("tops", 0, [])))),
    ("pair", ("row", 1), ("map", ("table", POINT))),
    ("later", ("tops", 0, []), ("row", 1)),
]

# Finite kinds, small enough to try all that their definitions say.
FINITE_KINDS = ONE_STATE + [
    FLAG,
    ("row", 5),
    STEPS,
    FORK,
    ("tops", 2, []),
    ("tops", 3, []),
    ("tops", 3, [(1, 0), (2, 1)]),
    ("table", DIAMOND),
    ("table", SQUARE),
    ("table", PENTAGON),
    ("table", SPANS),
    ("table", CUBE),
    ("table", renumbered(CUBE, [0, 7, 6, 5, 4, 3, 2, 1])),
    ("pair", ("row", 3), STEPS),
    ("pair", ("above", FLAG, FLAG), ("tops", 2, [])),
    ("pair", ("table", DIAMOND), FLAG),
    ("pair", ("row", 1), ("row", 4)),
    ("pair", ("map", ("row", 1)), ("tops", 2, [])),
    ("later", FLAG, ("row", 3)),
    ("later", ("row", 3), ("table", SQUARE)),
    ("later", ("tops", 2, []), ("row", 3)),
    ("later", ("table", DIAMOND), FLAG),
    ("later", ("table", SQUARE), ("tops", 2, [])),
    ("later", ("tops", 2, []), ("row", 1)),
    ("later", ("later", FLAG, FLAG), ("above", FLAG, FLAG)),
    ("above", FLAG, ("row", 3)),
    ("above", ("table", DIAMOND), ("table", SQUARE)),
    ("above", ("tops", 2, []), ("pair", FLAG, FLAG)),
    ("above", ("row", 1), ("row", 1)),
    ("above", ("above", FLAG, ("tops", 2, [])), ("later", FLAG, FLAG)),
]

# Endless kinds, each with some of its states.
ENDLESS_KINDS = [
    (("count",), [0, 1, 2, 7, 999999, 10**29]),
    (BAG, [[], [("a", 1)], [("b", 1)], [("a", 1), ("b", 1)], [("abcdefgh", 1)]]),
    (NAMES, [[], [("a", 2)], [("a", 1), ("b", 1)], [("b", 3)], [("a", 5), ("zz", 1)]]),
    (("map", NAMES), [[], [("a", [("a", 1)])], [("a", [("a", 1), ("b", 2)])], [("b", [("a", 4)]), ("c", [("c", 1)])]]),
    (
        ("pair", NAMES, ("above", ("count",), FLAG)),
        [([], ("low", 0)), ([("a", 1)], ("low", 4)), ([("a", 3), ("b", 1)], ("high", 0)), ([], ("high", 1))],
    ),
    (
        ("later", NAMES, ("count",)),
        [([], 0), ([], 9), ([("a", 1)], 4), ([("b", 1)], 2), ([("a", 1), ("b", 1)], 0), ([("a", 1), ("b", 1)], 3)],
    ),
    (
        ("later", ("count",), ("map", STEPS)),
        [(0, []), (0, [("a", [0])]), (1, []), (1, [("a", [0, 2])]), (1, [("a", [1]), ("b", [2])])],
    ),
    (("above", ("count",), FLAG), [("low", 0), ("low", 7), ("high", 0), ("high", 1)]),
    (
        ("map", ("above", ("table", DIAMOND), ("table", SQUARE))),
        [[], [("a", ("low", 1))], [("a", ("low", 4)), ("b", ("high", 0))], [("a", ("high", 3))]],
    ),
    (
        ("map", ("later", ("tops", 2, []), ("row", 3))),
        [[], [("x", ([0], 0))], [("x", ([0], 2)), ("y", ([1], 1))], [("x", ([1], 1))], [("x", ([0, 1], 0))]],
    ),
]

# Values of all sorts; none is a kind, a table, a state of a table or a list of states.
ODD_VALUES = [
    None,
    True,
    False,
    -1,
    -(10**29),
    10**29,
    "",
    "a",
    "count",
    "row 3",
    b"",
    b"ab",
    {},
    {"a": 1},
    {0: 0},
    set(),
    {1},
    frozenset([0]),
    object,
    len,
    (None,),
    [None],
    ["count"],
    [[None]],
    [[[[[[0]]]]]],
    [True],
    (False,),
    [-1],
    [("a",)],
    [("a", -1)],
    ("low",),
    ("high", -1, 0),
    ("count", None),
    (("count",),),
    [("count",)],
    ["a", "b"],
]

# Values in the place of a kind that are none.
WRONG_KINDS = ODD_VALUES + [
    (),
    ["count"],
    ("row", True),
    ("row", 21),
    ("tops", 2, [(0, 1), (1, 0)]),
    ("table", [[0, True], [1, 1]]),
    ("map", 0),
    ("map", ("map", ("map", NAMES))),
    ("pair", FLAG),
]

# Kinds by their grades, within one another in many ways.
EVEN_KINDS = ONE_STATE + [
    ("count",),
    ("row", 20),
    STEPS,
    LOOSE,
    ("table", SQUARE),
    ("table", CUBE),
    ("table", CHAIN),
    BAG,
    NAMES,
    ("map", NAMES),
    ("map", ("map", NAMES)),
    ("pair", NAMES, ("tops", 2, [])),
    ("later", ("count",), NAMES),
    ("later", ("row", 3), ("table", CUBE)),
    ("later", FULL, BAG),
    ("later", ("later", ("count",), ("count",)), BAG),
    ("later", ("above", ("count",), FLAG), BAG),
    ("later", ("pair", ("count",), ("row", 1)), STEPS),
    ("later", ("map", ("row", 1)), BAG),
    ("later", ("table", CHAIN), NAMES),
    ("later", BAG, ("row", 1)),
    ("later", ("tops", 2, []), ("map", ("tops", 0, []))),
    ("later", ("table", SQUARE), ("table", POINT)),
    ("above", BAG, NAMES),
    ("above", ("tops", 2, []), ("pair", BAG, BAG)),
    ("map", ("pair", FLAG, ("above", ("count",), STEPS))),
]
LISTS_KINDS = [
    ("table", SPANS),
    ("map", ("table", SPANS)),
    ("pair", ("table", SPANS), ("count",)),
    ("pair", ("table", SQUARE), ("table", SPANS)),
    ("later", ("count",), ("table", SPANS)),
    ("later", ("table", SPANS), ("row", 1)),
    ("above", ("table", SPANS), FLAG),
    ("above", ("table", CHAIN), ("map", ("map", ("table", SPANS)))),
]
NEITHER_KINDS = [
    ("table", DIAMOND),
    ("table", PENTAGON),
    ("table", GEMS),
    ("map", ("table", DIAMOND)),
    ("pair", ("table", SPANS), ("table", PENTAGON)),
    ("later", ("tops", 2, []), FLAG),
    ("later", BAG, FLAG),
    ("later", NAMES, ("count",)),
    ("later", ("pair", FLAG, FLAG), ("above", ("row", 1), ("row", 1))),
    ("later", ("table", SQUARE), ("tops", 1, [])),
    ("later", ("table", DIAMOND), ("row", 1)),
    ("later", ("count",), ("table", DIAMOND)),
    ("later", ("later", FLAG, BAG), FLAG),
    ("later", ("later", BAG, ("row", 1)), BAG),
    ("later", ("above", FLAG, BAG), STEPS),
    ("later", ("above", STEPS, FLAG), STEPS),
    ("later", ("pair", ("row", 1), BAG), STEPS),
    ("above", ("table", GEMS), FLAG),
    ("above", FLAG, ("later", LOOSE, NAMES)),
    ("map", ("pair", ("count",), ("table", DIAMOND))),
    ("map", ("pair", ("count",), ("later", STEPS, FLAG))),
    ("pair", ("above", ("later", STEPS, FLAG), FLAG), ("table", SPANS)),
]


def kinds_with_states():
    """All sample kinds, each with some of its states."""
    return [(kind, states_of(kind)) for kind in FINITE_KINDS] + ENDLESS_KINDS


def as_tuples(value):
    """The value with tuples in the place of lists."""
    if isinstance(value, (list, tuple)):
        return tuple(as_tuples(part) for part in value)
    return value


def same(one, other):
    """Whether two values are equal down to their classes: no tuple for a list, no bool for an int."""
    if one.__class__ is not other.__class__:
        return False
    if isinstance(one, (list, tuple)):
        return len(one) == len(other) and all(same(a, b) for a, b in zip(one, other))
    return one == other


def list_marks(value):
    """The identities of all lists inside the value, as often as they stand there."""
    marks = [id(value)] if isinstance(value, list) else []
    if isinstance(value, (list, tuple)):
        for part in value:
            marks += list_marks(part)
    return marks


def check_refused(case, error, attributes, function, *args, **named):
    """The call raises just this class, with these attributes, and leaves what it is passed as it was."""
    ahead = copy.deepcopy((args, named))
    with case.assertRaises(error) as caught:
        function(*args, **named)
    case.assertIs(caught.exception.__class__, error)
    case.assertEqual(set(vars(caught.exception)), set(attributes))
    for name, value in attributes.items():
        found = getattr(caught.exception, name)
        case.assertTrue(same(found, value), (function, name, found, value))
    case.assertTrue(same(ahead[0], args))
    case.assertEqual(ahead[1], named)


def check_call(case, answer, function, **named):
    """The call answers so by name and by place, twice, changes nothing and hands out new lists."""
    args = list(named.values())
    ahead = copy.deepcopy(args)
    for found in (function(*args), function(**named), function(*args)):
        case.assertTrue(same(found, answer), (function.__name__, args, found, answer))
        marks = list_marks(found)
        case.assertEqual(len(marks), len(set(marks)), (function.__name__, args))
        case.assertFalse(set(marks) & set(list_marks(args)), (function.__name__, args))
    case.assertTrue(same(ahead, args), (function.__name__, args))
