import unittest

from partsmet.errors import Endless, InvalidKind, TooMany
from partsmet.kinds import is_finite, is_kind, is_line, is_single, state_count, told_kind
from tests.oracle import Told
from tests.samples import (
    BAG,
    CHAIN,
    CUBE,
    DIAMOND,
    ENDLESS_KINDS,
    FINITE_KINDS,
    FLAG,
    FORK,
    FULL,
    FULL_TIES,
    LOOSE,
    NAMES,
    ODD_VALUES,
    ONE_STATE,
    PENTAGON,
    POINT,
    SQUARE,
    STEPS,
    TWO,
    as_tuples,
    check_call,
    check_refused,
    same,
)

COUNT = ("count",)
ENDLESS = [kind for kind, _ in ENDLESS_KINDS]
FOUR_DEEP = ("map", ("pair", FLAG, ("above", COUNT, STEPS)))
FIVE_DEEP = ("pair", COUNT, ("later", COUNT, ("above", COUNT, ("map", COUNT))))
SEVEN = ("pair", ("later", FLAG, FLAG), ("above", FLAG, FLAG))
TWELVE = ("pair", SEVEN, ("above", ("map", COUNT), FLAG))
THIRTEEN = ("pair", SEVEN, ("above", ("map", COUNT), ("map", FLAG)))
FIFTEEN = ("later", SEVEN, SEVEN)
ALL = FINITE_KINDS + ENDLESS + [FULL, LOOSE, FOUR_DEEP, TWELVE, ("row", 20), ("table", CHAIN)]
JUDGES = [is_single, is_line, is_finite]

NO_KINDS = ODD_VALUES + [
    (),
    ["count"],
    "count",
    b"count",
    ("counts",),
    ("Count",),
    ("count", 1),
    ("count", ()),
    (b"count",),
    (COUNT,),
    (["count"],),
    ("row",),
    ("row", 0),
    ("row", 21),
    ("row", -1),
    ("row", 10**29),
    ("row", True),
    ("row", False),
    ("row", None),
    ("row", "3"),
    ("row", [3]),
    ("row", 3, 3),
    ["row", 3],
    ("tops",),
    ("tops", 2),
    ("tops", [], 2),
    ("tops", 7, []),
    ("tops", -1, []),
    ("tops", 10**29, []),
    ("tops", True, []),
    ("tops", None, []),
    ("tops", "2", []),
    ("tops", 2, None),
    ("tops", 2, 0),
    ("tops", 2, ""),
    ("tops", 2, "ab"),
    ("tops", 2, {}),
    ("tops", 2, {(0, 1)}),
    ("tops", 2, [[0, 1]]),
    ("tops", 2, (0, 1)),
    ("tops", 2, [(0,)]),
    ("tops", 2, [(0, 1, 1)]),
    ("tops", 2, [(0, 2)]),
    ("tops", 2, [(2, 0)]),
    ("tops", 2, [(-1, 0)]),
    ("tops", 2, [(0, True)]),
    ("tops", 2, [(False, 1)]),
    ("tops", 2, [(0, 1), (False, True)]),
    ("tops", 2, [(0, "1")]),
    ("tops", 2, [(0, None)]),
    ("tops", 2, [(0, 10**29)]),
    ("tops", 2, ["01"]),
    ("tops", 0, [(0, 0)]),
    ("tops", 1, [(0, 0)]),
    ("tops", 2, [(0, 1), (1, 0)]),
    ("tops", 3, [(0, 1), (1, 2), (2, 0)]),
    ("tops", 6, [(5, 3), (3, 1), (1, 0), (2, 4), (0, 5)]),
    ("tops", 6, FULL_TIES + [(0, 1)]),
    ("tops", 2, [(0, 1)] * 16),
    ("tops", 2, [], []),
    ["tops", 2, []],
    ("table",),
    ("table", []),
    ("table", [[1]]),
    ("table", [[False]]),
    ("table", [[0, True], [1, 1]]),
    ("table", [[0, 1], [1, 0]]),
    ("table", 2),
    ("table", None),
    ("table", TWO, TWO),
    ("table", [[max(one, other) for other in range(9)] for one in range(9)]),
    ["table", TWO],
    ("tables", TWO),
    ("rows", TWO),
    ("", TWO),
    ("low", TWO),
    ("map",),
    ("map", None),
    ("map", ()),
    ("map", "count"),
    ("map", ["count"]),
    ("map", ("row", True)),
    ("map", ("row", 0)),
    ("map", COUNT, COUNT),
    ["map", COUNT],
    ("pair", COUNT),
    ("pair", COUNT, COUNT, COUNT),
    ("pair", COUNT, None),
    ("pair", None, COUNT),
    ("pair", (COUNT, COUNT)),
    ["pair", COUNT, COUNT],
    ("later", COUNT),
    ("later", COUNT, ("row", 21)),
    ("later", ["count"], COUNT),
    ("later", COUNT, COUNT, COUNT),
    ("above", COUNT),
    ("above", COUNT, ("tops", 7, [])),
    ("above", COUNT, COUNT, COUNT),
    ("above", (), COUNT),
    ("low", COUNT, COUNT),
    FIVE_DEEP,
    ("map", ("map", ("map", ("map", COUNT)))),
    ("map", ("map", ("map", ("map", ("map", ("map", COUNT)))))),
    ("above", ("map", FOUR_DEEP), COUNT),
    THIRTEEN,
    FIFTEEN,
]


class Judged(unittest.TestCase):
    def test_kinds(self):
        for kind in ALL:
            check_call(self, True, is_kind, value=kind)
            check_call(self, True, is_kind, value=as_tuples(kind))

    def test_no_kinds(self):
        for value in NO_KINDS:
            check_call(self, False, is_kind, value=value)
            check_call(self, False, is_kind, value=("map", value))
            check_call(self, False, is_kind, value=("pair", COUNT, value))
            check_call(self, False, is_kind, value=("above", value, COUNT))

    def test_bounds(self):
        for many in range(-1, 23):
            self.assertIs(is_kind(("row", many)), 1 <= many <= 20)
            self.assertIs(is_kind(("tops", many, [])), 0 <= many <= 6)
            self.assertIs(is_kind(("table", [[max(a, b) for b in range(many)] for a in range(many)])), 1 <= many <= 8)
            self.assertIs(is_kind(("tops", 3, [(0, 1)] * max(many, 0))), many <= 15)

    def test_depth(self):
        kind = COUNT
        for deep in range(1, 9):
            self.assertIs(is_kind(kind), deep <= 4)
            self.assertIs(is_kind(("later", kind, COUNT)), deep <= 3)
            self.assertIs(is_kind(("pair", COUNT, kind)), deep <= 3)
            self.assertIs(is_kind(("above", kind, kind)), deep <= 3)
            kind = ("map", kind)
        self.assertTrue(is_kind(FOUR_DEEP))
        self.assertFalse(is_kind(FIVE_DEEP))

    def test_how_many(self):
        self.assertTrue(is_kind(TWELVE))
        self.assertFalse(is_kind(THIRTEEN))
        self.assertFalse(is_kind(FIFTEEN))
        self.assertTrue(is_kind(("later", ("above", ("map", FLAG), ("pair", FLAG, FLAG)), SEVEN[1])))

    def test_who_comes_back(self):
        self.assertTrue(is_kind(("tops", 4, [(3, 2), (2, 1), (1, 0), (3, 0)])))
        self.assertFalse(is_kind(("tops", 4, [(3, 2), (2, 1), (1, 0), (0, 3)])))
        self.assertTrue(is_kind(("tops", 4, [(0, 2), (1, 2), (0, 3), (1, 3)])))


class ToldKinds(unittest.TestCase):
    def test_told(self):
        for kind in ALL:
            check_call(self, kind, told_kind, kind=kind)
            check_call(self, kind, told_kind, kind=as_tuples(kind))

    def test_ties(self):
        told = ("tops", 3, [(0, 1), (1, 2)])
        for ties in (((1, 2), (0, 1), (1, 2)), [(0, 1), (1, 2)], [(1, 2), (0, 1)], [(0, 1)] * 14 + [(1, 2)]):
            check_call(self, told, told_kind, kind=("tops", 3, ties))
            check_call(self, ("map", told), told_kind, kind=("map", ("tops", 3, ties)))
            check_call(self, ("later", told, ("above", told, COUNT)), told_kind,
                       kind=("later", ("tops", 3, ties), ("above", ("tops", 3, ties), COUNT)))
        check_call(self, FULL, told_kind, kind=("tops", 6, tuple(reversed(FULL_TIES))))
        check_call(self, ("tops", 3, [(0, 1), (0, 2), (1, 2)]), told_kind, kind=("tops", 3, [(1, 2), (0, 2), (0, 1)]))

    def test_one_kind_twice_within(self):
        steps, square = ("tops", 3, [(0, 1)]), ("table", SQUARE)
        check_call(self, ("pair", STEPS, STEPS), told_kind, kind=("pair", steps, steps))
        check_call(self, ("above", square, square), told_kind, kind=("above", square, square))

    def test_changing_what_is_returned(self):
        told = told_kind(("pair", STEPS, ("table", SQUARE)))
        told[1][2].append((1, 2))
        told[2][1][0][0] = 3
        self.assertTrue(same(told_kind(("pair", STEPS, ("table", SQUARE))), ("pair", STEPS, ("table", SQUARE))))


class SinglesLinesAndEnds(unittest.TestCase):
    def test_single(self):
        for kind in ALL:
            check_call(self, kind in ONE_STATE, is_single, kind=kind)
            check_call(self, kind in ONE_STATE, is_single, kind=as_tuples(kind))

    def test_single_told_alike(self):
        for kind in [("table", ((0,),)), ("tops", 0, ()), ("map", ("table", ((0,),)))]:
            check_call(self, True, is_single, kind=kind)
        for kind in [("above", ("row", 1), ("row", 1)), ("tops", 1, []), ("map", COUNT), ("pair", ("row", 1), FLAG)]:
            check_call(self, False, is_single, kind=kind)
        for kind in [("later", FLAG, ("row", 1)), ("later", ("row", 1), FLAG), ("pair", FLAG, ("row", 1)), COUNT]:
            check_call(self, False, is_single, kind=kind)

    def test_lines_by_their_states(self):
        for kind in FINITE_KINDS:
            told = Told(kind)
            many = range(len(told.states))
            answer = all(told.order[one][other] or told.order[other][one] for one in many for other in many)
            check_call(self, answer, is_line, kind=kind)

    def test_lines(self):
        one = ("map", ("row", 1))
        lines = [
            COUNT,
            ("row", 20),
            ("tops", 0, []),
            ("tops", 1, []),
            FULL,
            ("tops", 6, [(5, 4), (4, 3), (3, 2), (2, 1), (1, 0)]),
            ("table", CHAIN),
            ("table", [[0, 1, 2], [1, 1, 1], [2, 1, 2]]),
            ("table", POINT),
            one,
            ("pair", COUNT, one),
            ("pair", one, COUNT),
            ("pair", one, one),
            ("later", COUNT, COUNT),
            ("later", ("row", 3), ("above", COUNT, COUNT)),
            ("above", COUNT, ("later", COUNT, COUNT)),
        ]
        for kind in lines:
            check_call(self, True, is_line, kind=kind)
            check_call(self, True, is_line, kind=as_tuples(kind))

    def test_no_lines(self):
        others = [
            ("tops", 2, []),
            STEPS,
            FORK,
            ("tops", 6, FULL_TIES[1:5] + FULL_TIES[6:]),
            ("table", SQUARE),
            ("table", PENTAGON),
            BAG,
            NAMES,
            ("pair", FLAG, FLAG),
            ("pair", COUNT, FLAG),
            ("pair", ("row", 1), BAG),
            ("pair", BAG, ("row", 1)),
            ("later", BAG, COUNT),
            ("later", COUNT, BAG),
            ("later", ("row", 1), BAG),
            ("above", BAG, COUNT),
            ("above", COUNT, BAG),
        ]
        for kind in others:
            check_call(self, False, is_line, kind=kind)

    def test_endless(self):
        one = ("row", 1)
        endless = ENDLESS + [
            ("pair", COUNT, one),
            ("pair", one, COUNT),
            ("later", COUNT, FLAG),
            ("later", FLAG, COUNT),
            ("above", COUNT, FLAG),
            ("above", FLAG, COUNT),
            ("map", ("map", FLAG)),
            ("map", ("above", one, one)),
            ("pair", FLAG, ("later", FLAG, ("map", FLAG))),
        ]
        for kind in endless:
            check_call(self, False, is_finite, kind=kind)
            check_refused(self, Endless, {}, state_count, kind)

    def test_finite(self):
        for kind in FINITE_KINDS + [FULL, LOOSE, SEVEN, FIFTEEN[1], ("pair", ("row", 20), LOOSE)]:
            check_call(self, True, is_finite, kind=kind)


class Counted(unittest.TestCase):
    def test_counts(self):
        for kind in FINITE_KINDS:
            check_call(self, len(Told(kind).states), state_count, kind=kind)
            check_call(self, len(Told(kind).states), state_count, kind=as_tuples(kind))

    def test_told_counts(self):
        counts = [
            (("row", 20), 20),
            (("tops", 0, ()), 1),
            (LOOSE, 64),
            (FULL, 7),
            (FORK, 7),
            (("table", CUBE), 8),
            (("map", ("row", 1)), 1),
            (("pair", ("row", 20), ("row", 20)), 400),
            (("later", ("row", 20), ("row", 20)), 400),
            (("above", LOOSE, LOOSE), 128),
            (("above", ("pair", ("row", 20), ("row", 19)), ("row", 20)), 400),
            (SEVEN, 16),
        ]
        for kind, many in counts:
            check_call(self, many, state_count, kind=kind)

    def test_too_many(self):
        wide = ("pair", ("row", 20), ("row", 20))
        for kind in [("above", wide, ("row", 1)), ("above", ("row", 1), wide), ("pair", wide, wide), ("later", LOOSE, FULL)]:
            check_refused(self, TooMany, {"what": "states", "limit": 400}, state_count, kind)
            check_refused(self, TooMany, {"what": "states", "limit": 400}, state_count, kind=kind)
        check_refused(self, Endless, {}, state_count, ("pair", ("pair", wide, ("row", 2)), COUNT))
        check_refused(self, Endless, {}, state_count, ("above", BAG, ("pair", wide, wide)))


class Refused(unittest.TestCase):
    def test_kinds(self):
        for value in NO_KINDS:
            for function in [told_kind, state_count] + JUDGES:
                check_refused(self, InvalidKind, {"value": value}, function, value)
                check_refused(self, InvalidKind, {"value": value}, function, kind=value)

    def test_what_was_passed(self):
        value = ("pair", ("tops", 2, ((0, 1),)), ("table", (DIAMOND[0],)))
        check_refused(self, InvalidKind, {"value": value}, told_kind, value)


if __name__ == "__main__":
    unittest.main()
