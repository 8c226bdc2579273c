import itertools
import unittest

from partsmet.errors import InvalidKind, InvalidState, InvalidStates
from partsmet.joins import are_beside, is_at_most, join, joined
from tests.oracle import Told, is_at_most as told_at_most, least_of
from tests.samples import (
    BAG,
    CUBE,
    DIAMOND,
    FINITE_KINDS,
    FLAG,
    FORK,
    NAMES,
    ODD_VALUES,
    SQUARE,
    STEPS,
    as_tuples,
    check_call,
    check_refused,
    kinds_with_states,
)

COUNT = ("count",)
LATER = ("later", NAMES, COUNT)
ABOVE = ("above", COUNT, FLAG)
OF_TWO = [join, is_at_most, are_beside]
NO_KINDS = [None, False, "count", ["count"], ("row", True), ("row", 21), ("tops", 2, [(0, 1), (1, 0)]), ("map", 0)]
# Kinds, a state of each, and values that are no states of them.
WRONG = [
    (COUNT, 1, [True, False, -1, None, "1", [1], (1,), b"1", {}]),
    (FLAG, 1, [True, 2, -1]),
    (("table", SQUARE), 3, [True, 4, [3]]),
    (STEPS, [1], [[0, 1], [2, 1], [1, 1], [True], [3], 1, (0, 1), None]),
    (BAG, [("a", 1)], [[("a", True)], [("a", 0)], [["a", 1]], [("b", 1), ("a", 1)], [("a", 1)] * 2, {"a": 1}]),
    (("pair", FLAG, COUNT), (1, 1), [[1, 1], (1,), (2, 1), (1, True), (1, 1, 1), None]),
    (LATER, ([], 4), [[[], 4], ([("a", 0)], 4), ({}, 4), ([], False)]),
    (ABOVE, ("high", 1), [["high", 1], ("high", 2), ("low", True), ("mid", 0), ("high",), 1]),
]


class Finite(unittest.TestCase):
    """All states of finite kinds against the order told without joins."""

    def test_joins(self):
        for kind in FINITE_KINDS:
            told = Told(kind)
            for one, other in itertools.product(range(len(told.states)), repeat=2):
                named = {"kind": kind, "one": told.states[one], "other": told.states[other]}
                up, down = told.order[one][other], told.order[other][one]
                check_call(self, told.states[told.joins[one][other]], join, **named)
                check_call(self, up, is_at_most, **named)
                check_call(self, not up and not down, are_beside, **named)


class Laws(unittest.TestCase):
    def test_laws(self):
        for kind, states in kinds_with_states():
            least = least_of(kind)
            for one in states:
                self.assertEqual(join(kind, one, one), one)
                self.assertEqual(join(kind, least, one), one)
                self.assertTrue(is_at_most(kind, least, one))
            for one, other, third in itertools.product(states[:7], repeat=3):
                self.assertEqual(join(kind, one, other), join(kind, other, one))
                whole = join(kind, join(kind, one, other), third)
                self.assertEqual(whole, join(kind, one, join(kind, other, third)))
                for passed in itertools.permutations((one, other, third)):
                    self.assertEqual(joined(kind, list(passed)), whole)

    def test_order(self):
        for kind, states in kinds_with_states():
            for one, other in itertools.product(states[:12], repeat=2):
                up, down = told_at_most(kind, one, other), told_at_most(kind, other, one)
                self.assertIs(is_at_most(kind, one, other), up)
                self.assertIs(are_beside(kind, one, other), not up and not down)
                self.assertEqual(join(kind, one, other) == other, up)

    def test_least_upper_bound(self):
        for kind, states in kinds_with_states():
            for one, other, third in itertools.product(states[:8], repeat=3):
                met = join(kind, one, other)
                self.assertTrue(told_at_most(kind, one, met) and told_at_most(kind, other, met))
                if told_at_most(kind, one, third) and told_at_most(kind, other, third):
                    self.assertTrue(told_at_most(kind, met, third))


class WorkedOut(unittest.TestCase):
    def check(self, kind, one, other, answer):
        for left, right in ((one, other), (other, one)):
            check_call(self, answer, join, kind=kind, one=left, other=right)
            check_call(self, answer, join, kind=as_tuples(kind), one=as_tuples(left), other=as_tuples(right))

    def test_each_word(self):
        self.check(COUNT, 3, 10**29, 10**29)
        self.check(("row", 20), 19, 4, 19)
        self.check(("table", DIAMOND), 1, 2, 4)
        self.check(("table", CUBE), 5, 3, 7)
        self.check(STEPS, [0, 2], [1], [1, 2])
        self.check(STEPS, [0], [1], [1])
        self.check(STEPS, [0], [2], [0, 2])
        self.check(("tops", 6, [(0, 1), (1, 2), (2, 3)]), [0, 5], [3], [3, 5])
        self.check(("tops", 6, [(5, 4), (4, 3), (3, 2)]), [5], [1, 2], [1, 2])
        self.check(FORK, [1, 2], [3], [2, 3])
        self.check(NAMES, [("a", 2)], [("a", 1), ("b", 1)], [("a", 2), ("b", 1)])
        self.check(NAMES, [("b", 2), ("d", 1)], [("a", 1), ("c", 4), ("d", 3)],
                   [("a", 1), ("b", 2), ("c", 4), ("d", 3)])
        self.check(("map", NAMES), [("x", [("a", 2)])], [("x", [("b", 1)]), ("y", [("a", 1)])],
                   [("x", [("a", 2), ("b", 1)]), ("y", [("a", 1)])])
        self.check(("pair", NAMES, STEPS), ([("a", 1)], [0]), ([("b", 2)], [1, 2]), ([("a", 1), ("b", 2)], [1, 2]))

    def test_later(self):
        self.check(LATER, ([("a", 1)], 4), ([("b", 1)], 2), ([("a", 1), ("b", 1)], 0))
        self.check(LATER, ([], 9), ([("b", 1)], 2), ([("b", 1)], 2))
        self.check(LATER, ([("b", 1)], 9), ([("b", 1)], 2), ([("b", 1)], 9))
        self.check(LATER, ([("a", 1)], 9), ([("a", 1), ("b", 1)], 0), ([("a", 1), ("b", 1)], 0))
        steps = ("later", COUNT, STEPS)
        self.check(steps, (3, [0, 2]), (3, [1]), (3, [1, 2]))
        self.check(steps, (3, [0, 2]), (4, []), (4, []))
        self.check(("later", ("tops", 2, ()), NAMES), ([0], [("a", 1)]), ([1], [("a", 2)]), ([0, 1], []))

    def test_above(self):
        self.check(ABOVE, ("high", 0), ("low", 7), ("high", 0))
        self.check(ABOVE, ("high", 1), ("low", 0), ("high", 1))
        self.check(ABOVE, ("low", 3), ("low", 7), ("low", 7))
        self.check(ABOVE, ("high", 0), ("high", 1), ("high", 1))
        self.check(("above", NAMES, STEPS), ("low", [("a", 1)]), ("low", [("b", 1)]), ("low", [("a", 1), ("b", 1)]))
        self.check(("above", NAMES, STEPS), ("high", [0]), ("high", [2]), ("high", [0, 2]))

    def test_beside(self):
        check_call(self, True, are_beside, kind=LATER, one=([("a", 1)], 4), other=([("b", 1)], 2))
        check_call(self, False, are_beside, kind=LATER, one=([("a", 1)], 4), other=([("a", 2)], 2))
        check_call(self, False, are_beside, kind=STEPS, one=(0,), other=(1,))
        check_call(self, True, are_beside, kind=STEPS, one=(0,), other=(2,))
        check_call(self, False, are_beside, kind=BAG, one=[("a", 1)], other=(("a", 1),))
        check_call(self, True, is_at_most, kind=BAG, one=[("a", 1)], other=(("a", 1),))

    def test_joined(self):
        for kind, states in kinds_with_states():
            check_call(self, least_of(kind), joined, kind=kind, states=[])
            check_call(self, least_of(kind), joined, kind=kind, states=())
            for state in states:
                check_call(self, state, joined, kind=kind, states=[state])
                check_call(self, state, joined, kind=kind, states=(as_tuples(state), state, least_of(kind)))
        check_call(self, [("a", 3), ("b", 1), ("c", 2)], joined, kind=NAMES,
                   states=[[("a", 3)], [("b", 1)], (("a", 1), ("c", 2))])
        check_call(self, [("a", 40)], joined, kind=NAMES, states=[[("a", many)] for many in range(1, 41)])
        points = [2]
        check_call(self, ([2], [2]), joined, kind=("pair", STEPS, STEPS), states=[(points, points)] * 40)


class Refused(unittest.TestCase):
    def test_kinds_first(self):
        for kind in NO_KINDS:
            for function in OF_TWO:
                check_refused(self, InvalidKind, {"value": kind}, function, kind, None, None)
                check_refused(self, InvalidKind, {"value": kind}, function, other=0, one=0, kind=kind)
            check_refused(self, InvalidKind, {"value": kind}, joined, kind, None)
            check_refused(self, InvalidKind, {"value": kind}, joined, states=[], kind=kind)

    def test_states(self):
        for kind, state, values in WRONG:
            for function in OF_TWO:
                for value in values:
                    check_refused(self, InvalidState, {"value": value}, function, kind, value, state)
                    check_refused(self, InvalidState, {"value": value}, function, kind, state, value)
                    check_refused(self, InvalidState, {"value": value}, function, kind, value, None)
                    check_refused(self, InvalidState, {"value": value}, function, other="", one=value, kind=kind)

    def test_odd_values(self):
        for value in ODD_VALUES:
            for function in OF_TWO:
                check_refused(self, InvalidState, {"value": value}, function, ABOVE, value, ("low", 0))
                check_refused(self, InvalidState, {"value": value}, function, ABOVE, ("low", 0), value)
            check_refused(self, InvalidStates, {"value": value}, joined, ABOVE, value)

    def test_lists_of_states(self):
        for kind, state, values in WRONG:
            for value in values:
                for passed in ([value], (value,), [state, value], [value, state], [state] * 39 + [value]):
                    check_refused(self, InvalidStates, {"value": passed}, joined, kind, passed)
                    check_refused(self, InvalidStates, {"value": passed}, joined, states=passed, kind=kind)
            for passed in (None, True, 0, "", b"", {}, {0: state}):
                check_refused(self, InvalidStates, {"value": passed}, joined, kind, passed)

    def test_how_many(self):
        for kind, state, _ in WRONG:
            check_call(self, state, joined, kind=kind, states=[state] * 40)
            check_refused(self, InvalidStates, {"value": [state] * 41}, joined, kind, [state] * 41)
            check_refused(self, InvalidStates, {"value": (state,) * 60}, joined, kind, (state,) * 60)


if __name__ == "__main__":
    unittest.main()
