import itertools
import unittest

from partsmet.alikes import is_renaming, least_table, led_state, renaming
from partsmet.errors import Endless, InvalidKind, InvalidRenaming, InvalidState, NotEven, TooMany
from partsmet.grades import grade
from partsmet.joins import join
from partsmet.kinds import state_count
from tests.oracle import Told, least_of
from tests.samples import (
    BAG,
    CHAIN,
    CUBE,
    DIAMOND,
    ENDLESS_KINDS,
    FINITE_KINDS,
    FLAG,
    FORK,
    FULL,
    FULL_TIES,
    GEMS,
    LOOSE,
    NAMES,
    ODD_VALUES,
    ONE_STATE,
    SPANS,
    SQUARE,
    STEPS,
    TWO,
    WRONG_KINDS,
    as_tuples,
    check_call,
    check_refused,
    renumbered,
    small_tables,
)

COUNT = ("count",)
PAIRED = ("pair", ("row", 3), FLAG)
FORKED = ("tops", 3, [(2, 0)])
TURNED = ("table", renumbered(CUBE, [0, 7, 6, 5, 4, 3, 2, 1]))
SEVEN = ("row", 8)
# Kinds told in unlike ways, and the first renaming of the one to the other, None without one.
ROWS = [
    (PAIRED, FORKED, [1, 2, 0]),
    (FORKED, PAIRED, [2, 0, 1]),
    (PAIRED, ("row", 4), None),
    (PAIRED, PAIRED, [0, 1, 2]),
    (("row", 4), ("tops", 3, [(2, 1), (1, 0)]), [2, 1, 0]),
    (FLAG, ("table", TWO), [0]),
    (("table", SQUARE), ("tops", 2, []), [0, 1]),
    (("table", CUBE), TURNED, [0, 1, 2]),
    (("table", CUBE), ("pair", FLAG, ("pair", FLAG, FLAG)), [0, 1, 2]),
    (("table", CUBE), ("row", 4), None),
    (("table", CUBE), LOOSE, None),
    (("later", FLAG, FLAG), ("row", 4), [0, 1, 2]),
    (("above", FLAG, FLAG), ("row", 4), [1, 2, 0]),
    (("row", 4), ("above", FLAG, FLAG), [2, 0, 1]),
    (("above", ("tops", 2, []), FLAG), ("tops", 4, [(0, 2), (1, 2), (2, 3)]), [2, 3, 0, 1]),
    (("above", ("tops", 2, []), FLAG), ("tops", 4, [(0, 1), (1, 2), (1, 3)]), None),
    (FORK, ("tops", 4, [(3, 2), (3, 1), (2, 0)]), [3, 2, 1, 0]),
    (FULL, ("row", 7), [0, 1, 2, 3, 4, 5]),
    (LOOSE, ("pair", ("tops", 3, []), ("table", CUBE)), [0, 1, 2, 3, 4, 5]),
    (("row", 1), ("map", ("row", 1)), []),
    (("row", 1), FLAG, None),
]
TABLES = [
    (("row", 1), []),
    (FLAG, [[0]]),
    (("row", 3), [[0, 0], [1, 0]]),
    (("tops", 2, []), [[0, 0], [0, 0]]),
    (FORKED, [[0, 0, 0], [0, 0, 0], [0, 1, 0]]),
    (PAIRED, [[0, 0, 0], [0, 0, 0], [0, 1, 0]]),
    (("row", 4), [[0, 0, 0], [1, 0, 0], [1, 1, 0]]),
    (FULL, [[1] * at + [0] * (6 - at) for at in range(6)]),
    (LOOSE, [[0] * 6] * 6),
]
FEW = [("table", table) for table in small_tables(4)] + FINITE_KINDS + [FORKED, TURNED, LOOSE, FULL]


def order_of(kind):
    """Whether the part at low is below that at high, for all of a kind's parts, sorted, by the definitions."""
    told = Told(kind)
    return [[one != other and told.order[one][other] for other in told.parts] for one in told.parts]


def even_kinds():
    """Kinds with at most six parts and least differences, each with its order."""
    found = [kind for kind in FEW if grade(kind) == "differences"]
    return [(kind, order_of(kind)) for kind in found if len(order_of(kind)) <= 6]


def is_led(order, other, places):
    many = range(len(order))
    return all(order[a][b] == other[places[a]][places[b]] for a in many for b in many)


def permutations_of(many):
    return list(itertools.permutations(range(many)))


class Renamings(unittest.TestCase):
    def test_told(self):
        for kind, other, answer in ROWS:
            check_call(self, answer, renaming, kind=kind, other=other)
            check_call(self, answer, renaming, kind=as_tuples(kind), other=as_tuples(other))

    def test_by_all_sequences(self):
        kinds = even_kinds()
        self.assertGreater(len(kinds), 25)
        found = 0
        for (kind, order), (other, told) in itertools.product(kinds, kinds):
            fit = [list(places) for places in permutations_of(len(order))
                   if len(order) == len(told) and is_led(order, told, places)]
            check_call(self, fit[0] if fit else None, renaming, kind=kind, other=other)
            found += len(fit) > 0 and kind != other
            for places in permutations_of(len(told))[found % 3::7]:
                self.assertIs(is_renaming(kind, other, list(places)), list(places) in fit)
        self.assertGreater(found, 20)

    def test_alike_by_other_points(self):
        """Kinds by the same points in another sequence are alike, and stay so as tables of their states."""
        for ties in ([], [(0, 1)], [(0, 1), (1, 2)], [(0, 1), (0, 2)], [(0, 3), (1, 3), (2, 3)], [(3, 1), (1, 0)]):
            for order in permutations_of(4)[::5]:
                kind, other = ("tops", 4, ties), ("tops", 4, [(order[low], order[high]) for low, high in ties])
                self.assertIsNotNone(renaming(kind, other))
                self.assertTrue(is_renaming(kind, other, list(order)))
                self.assertEqual(least_table(kind), least_table(other))
                told = Told(kind)
                if len(told.states) <= 8:
                    places = [told.least] + [at for at in range(len(told.states)) if at != told.least][::-1]
                    table = ("table", renumbered(told.joins, places))
                    self.assertIsNotNone(renaming(other, table))
                    self.assertEqual(least_table(table), least_table(kind))

    def test_any_values(self):
        for value in ODD_VALUES + [[1, 2], [1, 2, 0, 0], [1, 2, 2], [0, 1, 2], [1, 2, False], [True, 2, 0], [1, 2, 3],
                                   [1, 2, -1], [1, 2, "0"], [1, 2, [0]], {1, 2, 0}, {1: 1, 2: 2, 0: 0}, "120", [[1, 2, 0]]]:
            check_call(self, False, is_renaming, kind=PAIRED, other=FORKED, value=value)
            check_call(self, False, is_renaming, kind=PAIRED, other=("row", 4), value=value)
        for value in ([1, 2, 0], (1, 2, 0)):
            check_call(self, True, is_renaming, kind=PAIRED, other=FORKED, value=value)
            check_call(self, False, is_renaming, kind=FORKED, other=PAIRED, value=value)
            check_call(self, False, is_renaming, kind=PAIRED, other=("row", 3), value=value)
        # Each position once, also where nothing stands in an order.
        for value, answer in [([0, 0], False), ([1, 1], False), ([0, 1], True), ((1, 0), True), ([0, 1, 1], False)]:
            check_call(self, answer, is_renaming, kind=("tops", 2, []), other=("table", SQUARE), value=value)
        for value in ([], ()):
            check_call(self, True, is_renaming, kind=("row", 1), other=("tops", 0, []), value=value)
            check_call(self, False, is_renaming, kind=("row", 1), other=FLAG, value=value)


class LeastTables(unittest.TestCase):
    def test_told(self):
        for kind, answer in TABLES:
            check_call(self, answer, least_table, kind=kind)
            check_call(self, answer, least_table, kind=as_tuples(kind))

    def test_by_all_sequences(self):
        for kind, order in even_kinds():
            rows = [[[int(order[a][b]) for b in places] for a in places] for places in permutations_of(len(order))]
            check_call(self, min(rows), least_table, kind=kind)

    def test_alike_exactly_with_one_table(self):
        kinds = [kind for kind, _ in even_kinds()]
        for kind, other in itertools.product(kinds, kinds):
            answer = renaming(kind, other) is not None
            self.assertEqual(least_table(kind) == least_table(other), answer)
            if answer:
                self.assertEqual(state_count(kind), state_count(other))


class Led(unittest.TestCase):
    def test_told(self):
        rows = [
            (PAIRED, FORKED, [1, 2, 0], (1, 1), [1, 2]),
            (PAIRED, FORKED, [1, 2, 0], (0, 0), []),
            (PAIRED, FORKED, [1, 2, 0], (2, 1), [0, 1]),
            (FORKED, PAIRED, [2, 0, 1], [1, 2], (1, 1)),
            (("tops", 2, []), ("table", SQUARE), [1, 0], [0], 2),
            (("row", 4), ("above", FLAG, FLAG), [2, 0, 1], 2, ("high", 0)),
            (("row", 1), ("map", ("row", 1)), [], 0, []),
        ]
        for kind, other, value, state, answer in rows:
            check_call(self, answer, led_state, kind=kind, other=other, value=value, state=state)
            check_call(self, answer, led_state, kind=as_tuples(kind), other=as_tuples(other), value=tuple(value),
                       state=as_tuples(state))

    def test_there_and_back_with_joins(self):
        kinds = [kind for kind, _ in even_kinds()]
        for kind, other in itertools.product(kinds, kinds):
            value = renaming(kind, other)
            if value is None:
                continue
            back = [value.index(place) for place in range(len(value))]
            self.assertTrue(is_renaming(other, kind, back))
            told, goal = Told(kind), Told(other)
            led = [led_state(kind, other, value, state) for state in told.states]
            self.assertEqual(sorted(led), goal.states)
            for state, there in zip(told.states, led):
                self.assertEqual(led_state(other, kind, back, there), state)
                lot = [value[at] for at, part in enumerate(told.parts) if told.order[part][told.states.index(state)]]
                self.assertEqual(goal.joined([goal.parts[at] for at in lot]), goal.states.index(there))
            for (one, a), (two, b) in itertools.product(zip(told.states, led), repeat=2):
                self.assertEqual(led[told.states.index(join(kind, one, two))], join(other, a, b))


class Refused(unittest.TestCase):
    def calls(self, kind, other, rest=(None, None)):
        """The functions of two kinds, each with all that it is passed."""
        return [(renaming, kind, other), (is_renaming, kind, other, rest[0]), (led_state, kind, other, *rest)]

    def test_kinds(self):
        """Each kind ahead of all that the kinds are like, in the sequence of the parameters."""
        for value in WRONG_KINDS:
            check_refused(self, InvalidKind, {"value": value}, least_table, value)
            check_refused(self, InvalidKind, {"value": value}, least_table, kind=value)
            for call in self.calls(value, None):
                check_refused(self, InvalidKind, {"value": value}, *call)
            for kind in (FLAG, COUNT, ("table", DIAMOND), SEVEN):
                for call in self.calls(kind, value):
                    check_refused(self, InvalidKind, {"value": value}, *call)
            check_refused(self, InvalidKind, {"value": value}, renaming, other=value, kind=FLAG)
            check_refused(self, InvalidKind, {"value": value}, led_state, state=0, value=[0], other=FLAG, kind=value)

    def test_endless(self):
        for kind, _ in ENDLESS_KINDS + [(BAG, []), (NAMES, []), (("pair", COUNT, ("table", DIAMOND)), None)]:
            check_refused(self, Endless, {}, least_table, kind)
            for other in (FLAG, COUNT, ("table", DIAMOND), SEVEN):
                for call in self.calls(kind, other) + self.calls(kind, other, ([], 0)):
                    check_refused(self, Endless, {}, *call)
            # The other kind is looked at behind the first one, and ahead of too many parts.
            for call in self.calls(FLAG, kind) + self.calls(SEVEN, kind):
                check_refused(self, Endless, {}, *call)

    def test_not_even(self):
        for kind in [("table", DIAMOND), ("table", GEMS), ("table", SPANS), ("later", LOOSE, LOOSE)]:
            check_refused(self, NotEven, {}, least_table, kind)
            for other in (FLAG, kind, SEVEN, COUNT):
                for call in self.calls(kind, other):
                    check_refused(self, NotEven, {}, *call)
            for other in (FLAG, SEVEN):
                for call in self.calls(other, kind):
                    check_refused(self, NotEven, {}, *call)

    def test_six_parts_and_seven(self):
        many = {"what": "parts", "limit": 6}
        for kind in (("row", 7), LOOSE, FULL, ("pair", ("row", 4), ("tops", 3, [])), ("later", FLAG, ("row", 3))):
            self.assertIsNotNone(renaming(kind, kind))
            self.assertLessEqual(len(least_table(kind)), 6)
        check_call(self, [5, 4, 3, 2, 1, 0], renaming, kind=("row", 7),
                   other=("tops", 6, [(high, low) for low, high in FULL_TIES]))
        for kind in (SEVEN, ("table", CHAIN), ("pair", LOOSE, FLAG), ("row", 20), ("later", FLAG, ("row", 4))):
            check_refused(self, TooMany, many, least_table, kind)
            for call in self.calls(kind, FLAG) + self.calls(FLAG, kind) + self.calls(kind, kind):
                check_refused(self, TooMany, many, *call)

    def test_renamings_ahead_of_states(self):
        for value in ODD_VALUES + [[1, 0, 2], [1, 2], [1, 2, 0, 3], [True, 2, 0], [1, 2, None]]:
            check_refused(self, InvalidRenaming, {"value": value}, led_state, PAIRED, FORKED, value, None)
            check_refused(self, InvalidRenaming, {"value": value}, led_state, state=(1, 1), value=value, other=FORKED,
                          kind=PAIRED)
        check_refused(self, InvalidRenaming, {"value": [0, 1, 2]}, led_state, PAIRED, ("row", 4), [0, 1, 2], (0, 0))
        check_refused(self, InvalidRenaming, {"value": []}, led_state, ("row", 1), FLAG, [], 0)

    def test_states(self):
        for value in ODD_VALUES + [(3, 0), (0, True), [0, 0], (0, 0, 0), 1]:
            check_refused(self, InvalidState, {"value": value}, led_state, PAIRED, FORKED, [1, 2, 0], value)
            check_refused(self, InvalidState, {"value": value}, led_state, state=value, value=(1, 2, 0), other=FORKED,
                          kind=PAIRED)

    def test_single_kinds(self):
        for kind in ONE_STATE:
            check_call(self, [], least_table, kind=kind)
            check_call(self, [], renaming, kind=kind, other=ONE_STATE[-1])
            check_call(self, least_of(ONE_STATE[-1]), led_state, kind=kind, other=ONE_STATE[-1], value=[],
                       state=least_of(kind))
            check_call(self, None, renaming, kind=kind, other=STEPS)


if __name__ == "__main__":
    unittest.main()
