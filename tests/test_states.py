import unittest

from partsmet.errors import Endless, InvalidKind, InvalidState, TooMany
from partsmet.kinds import is_kind
from partsmet.states import all_states, greatest_state, is_state, least_state, told_state
from tests.oracle import Told, least_of
from tests.samples import (
    BAG,
    CHAIN,
    CUBE,
    DIAMOND,
    ENDLESS_KINDS,
    FINITE_KINDS,
    FLAG,
    FORK,
    FULL,
    LOOSE,
    NAMES,
    ODD_VALUES,
    POINT,
    SQUARE,
    STEPS,
    as_tuples,
    check_call,
    check_refused,
    kinds_with_states,
    same,
)

COUNT = ("count",)
NEST = ("map", NAMES)
NO_KINDS = [None, True, "count", ["count"], ("row", 0), ("row", True), ("tops", 2, [[0, 1]]), ("map", ("map", ("map", NAMES)))]

# Kinds with values that are no states of them.
NO_STATES = [
    (COUNT, [-1, True, False, None, "0", [0], (0,), [], ()]),
    (FLAG, [2, -1, True, False, None, "0", [0], (0,), 10**29]),
    (("row", 20), [20, -1, True]),
    (("row", 1), [1, False, True, []]),
    (("table", SQUARE), [4, -1, True, False, None, "1", [1], 10**29]),
    (("table", POINT), [1, False]),
    (STEPS, [None, 0, "0", [0, 1], [1, 0], [2, 0], [0, 0], [3], [-1], [True], [False], [0, 1, 2], [[0]], [(0,)], {0: 0}]),
    (("tops", 0, []), [[0], None, 0, [[]], {}]),
    (FORK, [[0, 3], [0, 1, 2], [2, 1], [1, 3], [4], (0, 3)]),
    (LOOSE, [[0, 1, 2, 3, 4, 5, 6], [5, 4, 3, 2, 1, 0], [0, 1, 1], [False, True]]),
    (BAG, [
        None, 0, "", "a", {}, {"a": 1}, ("a", 1), [["a", 1]], [("a",)], [("a", 1, 1)], [("a", 0)], [("a", 2)],
        [("a", True)], [("a", False)], [("a", None)], [(1, 1)], [(None, 1)], [(b"a", 1)], [("", 1)], [("A", 1)],
        [("a1", 1)], [("a b", 1)], [("abcdefghi", 1)], [("a", 1), ("a", 1)], [("b", 1), ("a", 1)],
        [("a", 1), ("b", 0)], [("a", 1), None], [("aa", 1), ("a", 1)], [("a_", 1)], [("`", 1)], [("{", 1)], ["a1"],
    ]),
    (NEST, [
        [("a", [])], [("a", ())], [("a", [("a", 0)])], [("a", 1)], [("a", [("b", 1), ("a", 1)])], [("a", [["b", 1]])],
        [("a", [("b", True)])], [("b", [("a", 1)]), ("a", [("a", 1)])],
    ]),
    (("map", ("tops", 2, [])), [[("a", ())], [("a", [])], [("a", [1, 0])], [("a", 0)]]),
    (("map", ("row", 1)), [[("a", 0)], [("a", 1)], None, 0]),
    (("map", ("pair", FLAG, STEPS)), [[("a", (0, []))], [("a", (0, ()))], [("a", [0, [1]])], [("a", (0, [0, 1]))]]),
    (("map", ("above", FLAG, FLAG)), [[("a", ("low", 0))], [("a", ["high", 0])], [("a", ("high", 2))]]),
    (("map", ("later", STEPS, NAMES)), [[("a", ([], []))], [("a", ((), ()))]]),
    (("pair", FLAG, STEPS), [
        None, 0, [], (), (0,), (0, [], 0), [0, []], (2, []), (0, 0), ([], 0), (True, []), (0, [0, 1]), "ab", {0: 0, 1: 1},
    ]),
    (("later", NAMES, COUNT), [None, [], (), ([],), ([], -1), [[], 0], ([], True), ([("a", 0)], 0), (0, []), ([], 0, 0)]),
    (("above", COUNT, FLAG), [
        None, 0, (), ("low",), ("high",), ("low", -1), ("high", 2), ("high", True), ["low", 0], ["high", 0], ("mid", 0),
        (0, 0), ("low", 0, 0), "low", (b"low", 0), ("Low", 0), (["low"], 0), (None, 0), ("", 0), {"low": 0},
    ]),
]


class Judged(unittest.TestCase):
    def test_states(self):
        for kind, states in kinds_with_states():
            for state in states:
                check_call(self, True, is_state, kind=kind, value=state)
                check_call(self, True, is_state, kind=as_tuples(kind), value=as_tuples(state))

    def test_no_states(self):
        for kind, values in NO_STATES:
            for value in values:
                check_call(self, False, is_state, kind=kind, value=value)
                if not is_kind(("map", kind)):
                    continue
                check_call(self, False, is_state, kind=("pair", kind, FLAG), value=(value, 0))
                check_call(self, False, is_state, kind=("later", FLAG, kind), value=(1, value))
                check_call(self, False, is_state, kind=("above", kind, FLAG), value=("low", value))
                check_call(self, False, is_state, kind=("above", FLAG, kind), value=("high", value))
                check_call(self, False, is_state, kind=("map", kind), value=[("a", value)])

    def test_any_values(self):
        for kind, states in kinds_with_states():
            for value in ODD_VALUES:
                answer = any(same(value, state) for state in states)
                if kind not in (COUNT,):
                    self.assertIs(is_state(kind, value), answer, (kind, value))

    def test_states_of_other_kinds(self):
        told = [(kind, Told(kind).states) for kind in FINITE_KINDS]
        for kind, states in told:
            for _, others in told:
                for value in others:
                    alike = [state for state in states if same(as_tuples(value), as_tuples(state))]
                    # A pair of counts may be a list of points as well, told as a tuple: such values are left out.
                    if not alike or same(value, alike[0]):
                        self.assertIs(is_state(kind, value), bool(alike), (kind, value))

    def test_names(self):
        for name in ["a", "z", "abcdefgh", "zzzzzzzz", "az"]:
            self.assertTrue(is_state(BAG, [(name, 1)]), name)
        for name in ["", "abcdefghi", "a-b", "A", "aB", "a1", "1", " a", "a\n", "a ", "{", "`"]:
            self.assertFalse(is_state(BAG, [(name, 1)]), name)

    def test_kinds_ahead_of_values(self):
        for kind in NO_KINDS:
            for value in (0, None, []):
                check_refused(self, InvalidKind, {"value": kind}, is_state, kind, value)
                check_refused(self, InvalidKind, {"value": kind}, told_state, state=value, kind=kind)


class ToldStates(unittest.TestCase):
    def test_told(self):
        for kind, states in kinds_with_states():
            for state in states:
                check_call(self, state, told_state, kind=kind, state=state)
                check_call(self, state, told_state, kind=as_tuples(kind), state=as_tuples(state))

    def test_pairs_stay_tuples(self):
        kind = ("pair", ("later", STEPS, NAMES), ("above", NAMES, ("tops", 2, ())))
        check_call(self, (([1], [("a", 2)]), ("high", [0, 1])), told_state,
                   kind=kind, state=(((1,), (("a", 2),)), ("high", (0, 1))))
        check_call(self, (([], []), ("low", [])), told_state, kind=kind, state=(((), ()), ("low", ())))

    def test_one_list_twice_within(self):
        points = [0, 2]
        check_call(self, ([0, 2], [0, 2]), told_state, kind=("pair", STEPS, STEPS), state=(points, points))

    def test_refused(self):
        for kind, values in NO_STATES:
            for value in values:
                check_refused(self, InvalidState, {"value": value}, told_state, kind, value)
                check_refused(self, InvalidState, {"value": value}, told_state, state=value, kind=kind)


class LeastAndGreatest(unittest.TestCase):
    def test_least(self):
        for kind, states in kinds_with_states():
            check_call(self, least_of(kind), least_state, kind=kind)
            check_call(self, least_of(kind), least_state, kind=as_tuples(kind))
            self.assertIn(least_of(kind), states)
        check_call(self, ([], ([], ("low", []))), least_state,
                   kind=("pair", BAG, ("later", STEPS, ("above", STEPS, COUNT))))

    def test_greatest_of_finite(self):
        for kind in FINITE_KINDS:
            told = Told(kind)
            (top,) = [state for state, row in zip(told.states, zip(*told.order)) if all(row)]
            check_call(self, top, greatest_state, kind=kind)
            check_call(self, top, greatest_state, kind=as_tuples(kind))

    def test_greatest(self):
        answers = [
            (("row", 20), 19),
            (LOOSE, [0, 1, 2, 3, 4, 5]),
            (FULL, [5]),
            (FORK, [2, 3]),
            (("table", CHAIN), 7),
            (("table", [[0, 1, 2], [1, 1, 1], [2, 1, 2]]), 1),
            (("above", COUNT, FLAG), ("high", 1)),
            (("above", ("above", COUNT, COUNT), STEPS), ("high", [1, 2])),
            (("pair", ("above", COUNT, FLAG), ("above", NAMES, ("row", 1))), (("high", 1), ("high", 0))),
            (("later", ("above", BAG, FLAG), FLAG), (("high", 1), 1)),
            (("map", ("row", 1)), []),
        ]
        for kind, top in answers:
            check_call(self, top, greatest_state, kind=kind)

    def test_no_greatest(self):
        kinds = [
            COUNT,
            BAG,
            NEST,
            ("map", ("above", COUNT, FLAG)),
            ("pair", COUNT, FLAG),
            ("pair", FLAG, BAG),
            ("later", COUNT, FLAG),
            ("later", FLAG, COUNT),
            ("above", FLAG, COUNT),
            ("above", COUNT, BAG),
            ("above", FLAG, ("above", FLAG, COUNT)),
        ]
        for kind in kinds:
            check_call(self, None, greatest_state, kind=kind)


class AllStates(unittest.TestCase):
    def test_all(self):
        for kind in FINITE_KINDS:
            if len(Told(kind).states) <= 100:
                check_call(self, Told(kind).states, all_states, kind=kind)
                check_call(self, Told(kind).states, all_states, kind=as_tuples(kind))

    def test_told(self):
        check_call(self, [[]], all_states, kind=("tops", 0, []))
        check_call(self, [0], all_states, kind=("table", POINT))
        check_call(self, [0, 1, 2, 3, 4, 5, 6, 7], all_states, kind=("table", CUBE))
        check_call(self, [[]], all_states, kind=("map", ("table", POINT)))
        check_call(self, [[], [0], [1], [2], [3], [4], [5]], all_states, kind=FULL)
        check_call(self, [("high", 0), ("low", 0), ("low", 1)], all_states, kind=("above", FLAG, ("row", 1)))
        check_call(self, [([], 0), ([], 1), ([0], 0), ([0], 1)], all_states, kind=("later", ("tops", 1, ()), FLAG))

    def test_a_hundred(self):
        ten = ("row", 10)
        self.assertEqual(len(all_states(("pair", ten, ten))), 100)
        self.assertEqual(len(all_states(("above", LOOSE, ("pair", ("row", 6), ("row", 6))))), 100)
        for kind in [("above", ("pair", ten, ten), ("row", 1)), ("above", LOOSE, LOOSE), ("later", LOOSE, FLAG)]:
            check_refused(self, TooMany, {"what": "states", "limit": 100}, all_states, kind)
            check_refused(self, TooMany, {"what": "states", "limit": 100}, all_states, kind=kind)

    def test_endless(self):
        wide = ("pair", ("row", 20), ("row", 20))
        for kind in [kind for kind, _ in ENDLESS_KINDS] + [("pair", wide, COUNT), ("above", BAG, wide)]:
            check_refused(self, Endless, {}, all_states, kind)


class Refused(unittest.TestCase):
    def test_kinds(self):
        for value in ODD_VALUES + NO_KINDS + [("table", [[0, True], [1, 1]]), ("table", DIAMOND, 0)]:
            for function in (least_state, greatest_state, all_states):
                check_refused(self, InvalidKind, {"value": value}, function, value)
                check_refused(self, InvalidKind, {"value": value}, function, kind=value)


if __name__ == "__main__":
    unittest.main()
