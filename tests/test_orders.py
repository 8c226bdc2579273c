import itertools
import unittest

from partsmet.errors import Endless, InvalidKind, InvalidPositions, InvalidState, NotEven, TooMany
from partsmet.grades import grade
from partsmet.kinds import state_count
from partsmet.orders import kind_parts, lot_count, lot_state, part_lot, part_order, ways_up
from tests.oracle import Told, least_of
from tests.samples import (
    BAG,
    CHAIN,
    CUBE,
    DIAMOND,
    ENDLESS_KINDS,
    FINITE_KINDS,
    FLAG,
    FORK,
    FULL,
    LOOSE,
    NAMES,
    ODD_VALUES,
    ONE_STATE,
    SPANS,
    SQUARE,
    STEPS,
    WRONG_KINDS,
    as_tuples,
    check_call,
    check_refused,
    renumbered,
    small_tables,
)

COUNT = ("count",)
OF_KIND = [kind_parts, part_order, lot_count, ways_up]
PAIRED = ("pair", ("row", 3), FLAG)
TURNED = ("table", renumbered(CUBE, [0, 7, 6, 5, 4, 3, 2, 1]))
TEN = ("pair", ("row", 6), ("row", 6))
ELEVEN = ("pair", ("row", 6), ("row", 7))
# Finite kinds with least differences of which all can be tried.
SMALL = [kind for kind in FINITE_KINDS if grade(kind) == "differences" and len(Told(kind).parts) <= 7]
TABLES = [("table", table) for table in small_tables(4)]
# Kinds, their parts, the order of these, how many lower lots, and how many ways up.
TOLD = [
    (PAIRED, [(0, 1), (1, 0), (2, 0)], [(1, 2)], 6, 3),
    (("row", 4), [1, 2, 3], [(0, 1), (0, 2), (1, 2)], 4, 1),
    (STEPS, [[0], [1], [2]], [(0, 1)], 6, 3),
    (FORK, [[0], [1], [2], [3]], [(0, 1), (0, 2), (0, 3), (1, 3)], 7, 3),
    (("tops", 3, [(2, 0)]), [[0], [1], [2]], [(2, 0)], 6, 3),
    (("table", SQUARE), [1, 2], [], 4, 2),
    (("table", CUBE), [1, 2, 4], [], 8, 6),
    (TURNED, [4, 6, 7], [], 8, 6),
    (("later", FLAG, FLAG), [(0, 1), (1, 0), (1, 1)], [(0, 1), (0, 2), (1, 2)], 4, 1),
    (("later", FLAG, ("tops", 2, [])), [(0, [0]), (0, [1]), (1, []), (1, [0]), (1, [1])],
     [(0, 2), (0, 3), (0, 4), (1, 2), (1, 3), (1, 4), (2, 3), (2, 4)], 8, 4),
    (("above", FLAG, FLAG), [("high", 0), ("high", 1), ("low", 1)], [(0, 1), (2, 0), (2, 1)], 4, 1),
    (("above", ("tops", 2, []), FLAG), [("high", 0), ("high", 1), ("low", [0]), ("low", [1])],
     [(0, 1), (2, 0), (2, 1), (3, 0), (3, 1)], 6, 2),
    (("above", ("row", 1), ("row", 1)), [("high", 0)], [], 2, 1),
    (LOOSE, [[at] for at in range(6)], [], 64, 720),
    (FULL, [[at] for at in range(6)], list(itertools.combinations(range(6), 2)), 7, 1),
    (("table", CHAIN), [1, 2, 3, 4, 5, 6, 7], list(itertools.combinations(range(7), 2)), 8, 1),
]


class Brute:
    """What a finite kind's parts tell, by all lots of them and all sequences."""

    def __init__(self, kind):
        told = Told(kind)
        self.states = told.states
        self.parts = [told.states[part] for part in told.parts]
        places = range(len(self.parts))
        self.order = [(low, high) for low in places for high in places
                      if low != high and told.order[told.parts[low]][told.parts[high]]]
        lots = [lot for size in range(len(self.parts) + 1) for lot in itertools.combinations(places, size)]
        self.lots = [list(lot) for lot in lots if all(low in lot for low, high in self.order if high in lot)]
        self.others = [list(lot) for lot in lots if list(lot) not in self.lots]
        self.tops = [told.states[told.joined([told.parts[place] for place in lot])] for lot in self.lots]

    def ways(self):
        rows = itertools.permutations(range(len(self.parts)))
        return sum(all(row.index(low) < row.index(high) for low, high in self.order) for row in rows)


class Orders(unittest.TestCase):
    def test_told(self):
        for kind, parts, order, lots, ways in TOLD:
            for passed in (kind, as_tuples(kind)):
                check_call(self, parts, kind_parts, kind=passed)
                check_call(self, order, part_order, kind=passed)
                check_call(self, lots, lot_count, kind=passed)
                check_call(self, ways, ways_up, kind=passed)

    def test_by_all_lots(self):
        self.assertGreater(len(SMALL), 20)
        for kind in SMALL + [kind for kind in TABLES if grade(kind) == "differences"]:
            brute = Brute(kind)
            check_call(self, brute.parts, kind_parts, kind=kind)
            check_call(self, sorted(brute.order), part_order, kind=kind)
            check_call(self, len(brute.lots), lot_count, kind=kind)
            check_call(self, state_count(kind), lot_count, kind=kind)
            self.assertEqual(sorted(brute.tops), sorted(brute.states))
            for lot, state in zip(brute.lots, brute.tops):
                check_call(self, lot, part_lot, kind=kind, state=state)
                check_call(self, state, lot_state, kind=kind, positions=lot)
                check_call(self, state, lot_state, kind=as_tuples(kind), positions=tuple(lot))
                check_call(self, lot, part_lot, kind=as_tuples(kind), state=as_tuples(state))
            for lot in brute.others:
                check_refused(self, InvalidPositions, {"value": lot}, lot_state, kind, lot)

    def test_ways_by_all_sequences(self):
        for kind in SMALL:
            brute = Brute(kind)
            if len(brute.parts) <= 6:
                check_call(self, brute.ways(), ways_up, kind=kind)

    def test_ways_by_rows_of_states(self):
        """As many as there are rows from the least to the greatest state into which no further state fits."""
        for kind in SMALL:
            told = Told(kind)
            many = range(len(told.states))
            above = [[at for at in many if told.order[one][at] and at != one] for one in many]
            next_ones = [[at for at in above[one] if not any(at in above[each] for each in above[one])] for one in many]
            rows = {}
            for one in sorted(many, key=lambda at: len(above[at])):
                rows[one] = sum(rows[at] for at in next_ones[one]) if above[one] else 1
            self.assertEqual(ways_up(kind), rows[told.least])

    def test_single_kinds(self):
        for kind in ONE_STATE:
            check_call(self, [], kind_parts, kind=kind)
            check_call(self, [], part_order, kind=kind)
            check_call(self, 1, lot_count, kind=kind)
            check_call(self, 1, ways_up, kind=kind)
            check_call(self, [], part_lot, kind=kind, state=least_of(kind))
            check_call(self, least_of(kind), lot_state, kind=kind, positions=[])


class Lots(unittest.TestCase):
    def test_told(self):
        rows = [
            (PAIRED, (1, 1), [0, 1]),
            (PAIRED, (2, 1), [0, 1, 2]),
            (PAIRED, (2, 0), [1, 2]),
            (PAIRED, (0, 0), []),
            (FORK, [2, 3], [0, 1, 2, 3]),
            (FORK, [1, 2], [0, 1, 2]),
            (("tops", 3, [(2, 0)]), [0], [0, 2]),
            (TURNED, 1, [0, 1, 2]),
            (("above", FLAG, FLAG), ("high", 0), [0, 2]),
            (("later", FLAG, ("tops", 2, [])), (1, [1]), [0, 1, 2, 4]),
        ]
        for kind, state, positions in rows:
            for passed in ((kind, state, positions), (as_tuples(kind), as_tuples(state), tuple(positions))):
                check_call(self, positions, part_lot, kind=passed[0], state=passed[1])
                check_call(self, state, lot_state, kind=passed[0], positions=passed[2])

    def test_wrong_positions(self):
        wrong = [
            [2], [0, 2], [1, 0], [2, 1], [1, 1], [1, 2, 2], [0, 1, 2, 3], [3], [-1], [-1, 0], [True], [False],
            [0, True], [0, 1, True],
            [1, "2"], ["1"], [[1]], [(1, 2)], {1}, {1: 2}, "1", "12", 0, 1, None, b"\x01", [None], [10**29],
        ]
        for value in wrong + ODD_VALUES:
            check_refused(self, InvalidPositions, {"value": value}, lot_state, PAIRED, value)
            check_refused(self, InvalidPositions, {"value": value}, lot_state, positions=value, kind=PAIRED)
        for value in [[0], [True], [0, 1], None]:
            check_refused(self, InvalidPositions, {"value": value}, lot_state, ("row", 1), value)
            check_refused(self, InvalidPositions, {"value": value}, lot_state, ("map", ("tops", 0, ())), value)
        check_refused(self, InvalidPositions, {"value": (2, 1)}, lot_state, PAIRED, (2, 1))


class Bounds(unittest.TestCase):
    def test_ten_parts(self):
        parts = [(0, at) for at in range(1, 6)] + [(at, 0) for at in range(1, 6)]
        check_call(self, parts, kind_parts, kind=TEN)
        check_call(self, 36, lot_count, kind=TEN)
        check_call(self, 252, ways_up, kind=TEN)
        check_call(self, [0, 1, 2, 5], part_lot, kind=TEN, state=(1, 3))
        check_call(self, (5, 5), lot_state, kind=TEN, positions=list(range(10)))
        loose = ("pair", LOOSE, ("tops", 4, []))
        check_call(self, 1024, lot_count, kind=loose)
        check_call(self, 3628800, ways_up, kind=loose)
        check_call(self, [], part_order, kind=loose)
        check_call(self, list(itertools.combinations(range(10), 2)), part_order, kind=("row", 11))
        check_call(self, 1, ways_up, kind=("row", 11))
        check_call(self, 10, len_of_parts, kind=("above", ("row", 6), ("row", 5)))
        # A first side with many states makes no parts with a second one of a single state.
        check_call(self, 10, len_of_parts, kind=("later", TEN, ("row", 1)))

    def test_eleven_parts(self):
        many = {"what": "parts", "limit": 10}
        for kind in [ELEVEN, ("row", 12), ("pair", LOOSE, ("tops", 5, [])), ("later", ("row", 4), ("row", 3)),
                     ("above", ("row", 6), ("row", 6)), ("later", ("row", 20), ("row", 20))]:
            for function in OF_KIND:
                check_refused(self, TooMany, many, function, kind)
                check_refused(self, TooMany, many, function, kind=kind)
            check_refused(self, TooMany, many, part_lot, kind, least_of(kind))
            check_refused(self, TooMany, many, lot_state, kind, [])
            check_refused(self, TooMany, many, lot_state, positions=None, kind=kind)


def len_of_parts(kind):
    return len(kind_parts(kind))


class Refused(unittest.TestCase):
    def test_kinds(self):
        for value in WRONG_KINDS:
            for function in OF_KIND:
                check_refused(self, InvalidKind, {"value": value}, function, value)
                check_refused(self, InvalidKind, {"value": value}, function, kind=value)
            for function in (part_lot, lot_state):
                check_refused(self, InvalidKind, {"value": value}, function, value, None)
            check_refused(self, InvalidKind, {"value": value}, part_lot, state=0, kind=value)
            check_refused(self, InvalidKind, {"value": value}, lot_state, positions=[], kind=value)

    def test_endless(self):
        """Ahead of uneven ones and of too many parts; positions are looked at behind all of these."""
        kinds = [kind for kind, _ in ENDLESS_KINDS] + [("pair", COUNT, ("table", DIAMOND)),
                                                       ("pair", NAMES, ("row", 20))]
        for kind in kinds:
            for function in OF_KIND:
                check_refused(self, Endless, {}, function, kind)
                check_refused(self, Endless, {}, function, kind=kind)
            check_refused(self, Endless, {}, part_lot, kind, least_of(kind))
            for value in ([], None, [0]):
                check_refused(self, Endless, {}, lot_state, kind, value)

    def test_not_even(self):
        kinds = [kind for kind in FINITE_KINDS if grade(kind) != "differences"]
        kinds += [("table", SPANS), ("pair", ("table", DIAMOND), ("row", 20)), ("later", LOOSE, LOOSE)]
        for kind in kinds:
            for function in OF_KIND:
                check_refused(self, NotEven, {}, function, kind)
            check_refused(self, NotEven, {}, part_lot, kind, least_of(kind))
            for value in ([], None, [0]):
                check_refused(self, NotEven, {}, lot_state, kind, value)

    def test_states(self):
        """States are looked at ahead of what the kind is like."""
        rows = [
            (PAIRED, [(3, 0), (0, True), [0, 0], (0,), 0]),
            (BAG, [[("a", True)], [("a", 0)], 0]),
            (("table", DIAMOND), [5, True, [1]]),
            (ELEVEN, [(6, 0), (0, 7), 0]),
        ]
        for kind, values in rows:
            for value in values + ODD_VALUES:
                check_refused(self, InvalidState, {"value": value}, part_lot, kind, value)
                check_refused(self, InvalidState, {"value": value}, part_lot, state=value, kind=kind)


if __name__ == "__main__":
    unittest.main()
