import itertools
import unittest

from partsmet.errors import InvalidKind, InvalidState, InvalidStates
from partsmet.joins import is_at_most, joined
from partsmet.parts import is_part, is_part_list, lacked, part_list, thinned
from tests.oracle import Told, least_of
from tests.samples import (
    BAG,
    CUBE,
    DIAMOND,
    ENDLESS_KINDS,
    FINITE_KINDS,
    FLAG,
    LOOSE,
    NAMES,
    ODD_VALUES,
    PENTAGON,
    STEPS,
    as_tuples,
    check_call,
    check_refused,
    kinds_with_states,
    renumbered,
)

COUNT = ("count",)
LATER = ("later", NAMES, COUNT)
ABOVE = ("above", COUNT, FLAG)
GEM = ("table", DIAMOND)
NO_KINDS = [None, False, "count", ["count"], ("row", True), ("row", 21), ("tops", 2, [(0, 1), (1, 0)]), ("map", 0)]
# Finite kinds of which all lists of all states can be tried.
SMALL = [kind for kind in FINITE_KINDS if len(Told(kind).states) <= 20]


def told_list(told, at):
    """The first of the shortest lists."""
    return min(told.lists(at), key=lambda each: (len(each), each))


def is_list(kind, states, goal):
    """Whether the parts join to the goal, and without any one of them do not."""
    if not all(is_part(kind, each) for each in states) or joined(kind, states) != goal:
        return False
    return all(joined(kind, states[:at] + states[at + 1:]) != goal for at in range(len(states)))


class Parts(unittest.TestCase):
    def test_finite(self):
        for kind in FINITE_KINDS:
            told = Told(kind)
            for at, state in enumerate(told.states):
                check_call(self, at in told.parts, is_part, kind=kind, state=state)
                check_call(self, at in told.parts, is_part, kind=as_tuples(kind), state=as_tuples(state))

    def test_each_word(self):
        parts = [
            (COUNT, [1, 2, 10**29]),
            (("row", 20), [1, 19]),
            (STEPS, [[0], [1], [2]]),
            (GEM, [1, 2, 3]),
            (NAMES, [[("a", 1)], [("abcdefgh", 7)]]),
            (("map", STEPS), [[("a", [1])]]),
            (("pair", COUNT, NAMES), [(3, []), (0, [("a", 1)])]),
            (LATER, [([], 1), ([("a", 1)], 0), ([("a", 1)], 3), ([("a", 1), ("b", 1)], 3)]),
            (("later", GEM, GEM), [(4, 1), (0, 3), (1, 0), (2, 3)]),
            (ABOVE, [("low", 1), ("low", 9), ("high", 0), ("high", 1)]),
            (("above", GEM, BAG), [("low", 3), ("high", []), ("high", [("a", 1)])]),
        ]
        for kind, states in parts:
            for state in states:
                check_call(self, True, is_part, kind=kind, state=state)
                check_call(self, [state], part_list, kind=kind, state=as_tuples(state))

    def test_no_parts(self):
        others = [
            (COUNT, [0]),
            (("row", 1), [0]),
            (STEPS, [[], [0, 2], [1, 2]]),
            (GEM, [0, 4]),
            (NAMES, [[], [("a", 1), ("b", 1)]]),
            (("map", STEPS), [[("a", [1, 2])]]),
            (("pair", COUNT, NAMES), [(0, []), (3, [("a", 1)]), (0, [("a", 1), ("b", 1)])]),
            (("pair", GEM, GEM), [(0, 0), (4, 0), (0, 4), (1, 1)]),
            (LATER, [([], 0), ([("a", 1), ("b", 1)], 0)]),
            (("later", GEM, GEM), [(0, 0), (4, 0), (4, 4), (1, 4), (0, 4)]),
            (ABOVE, [("low", 0)]),
            (("above", GEM, BAG), [("low", 0), ("low", 4), ("high", [("a", 1), ("b", 1)])]),
        ]
        for kind, states in others:
            for state in states:
                check_call(self, False, is_part, kind=kind, state=state)
                self.assertNotEqual(part_list(kind, state), [state])


class ToldLists(unittest.TestCase):
    def test_they_are_lists(self):
        for kind, states in kinds_with_states():
            for state in states:
                found = part_list(kind, state)
                check_call(self, found, part_list, kind=kind, state=state)
                check_call(self, found, part_list, kind=as_tuples(kind), state=as_tuples(state))
                self.assertEqual(found, sorted(found))
                self.assertTrue(is_list(kind, found, state), (kind, state, found))
                check_call(self, True, is_part_list, kind=kind, state=state, value=found)
            self.assertEqual(part_list(kind, least_of(kind)), [])

    def test_one_of_all_lists(self):
        for kind in SMALL:
            told = Told(kind)
            for at, state in enumerate(told.states):
                lists = told.lists(at)
                self.assertIn(part_list(kind, state), lists)
                if kind[0] == "table":
                    self.assertEqual(part_list(kind, state), told_list(told, at))

    def test_tables_with_several(self):
        check_call(self, [1, 2], part_list, kind=GEM, state=4)
        check_call(self, [1, 3], part_list, kind=("table", PENTAGON), state=4)
        check_call(self, [1, 2, 4], part_list, kind=("table", CUBE), state=7)
        check_call(self, [2, 4], part_list, kind=("table", renumbered(PENTAGON, [0, 4, 1, 2, 3])), state=1)

    def test_each_word(self):
        lists = [
            (COUNT, 5, [5]),
            (("row", 3), 2, [2]),
            (STEPS, [1, 2], [[1], [2]]),
            (LOOSE, [0, 1, 2, 3, 4, 5], [[0], [1], [2], [3], [4], [5]]),
            (NAMES, [("a", 2), ("b", 1)], [[("a", 2)], [("b", 1)]]),
            (("map", ("map", GEM)), [("x", [("a", 4)]), ("y", [("a", 1), ("b", 3)])],
             [[("x", [("a", 1)])], [("x", [("a", 2)])], [("y", [("a", 1)])], [("y", [("b", 3)])]]),
            (("pair", NAMES, GEM), ([("a", 1), ("b", 1)], 4), [([], 1), ([], 2), ([("a", 1)], 0), ([("b", 1)], 0)]),
            (("pair", ABOVE, STEPS), (("high", 1), [0, 2]), [(("high", 1), []), (("low", 0), [0]), (("low", 0), [2])]),
            (("pair", ABOVE, STEPS), (("low", 1), [0]), [(("low", 0), [0]), (("low", 1), [])]),
            (LATER, ([("a", 1), ("b", 2)], 0), [([("a", 1)], 0), ([("b", 2)], 0)]),
            (LATER, ([("a", 1), ("b", 2)], 3), [([("a", 1), ("b", 2)], 3)]),
            (LATER, ([], 3), [([], 3)]),
            (("later", STEPS, GEM), ([0, 2], 4), [([0, 2], 1), ([0, 2], 2)]),
            (("later", STEPS, GEM), ([0, 2], 0), [([0], 0), ([2], 0)]),
            (("later", STEPS, ("row", 1)), ([0, 2], 0), [([0], 0), ([2], 0)]),
            (ABOVE, ("high", 0), [("high", 0)]),
            (ABOVE, ("high", 1), [("high", 1)]),
            (ABOVE, ("low", 3), [("low", 3)]),
            (ABOVE, ("low", 0), []),
            (("above", GEM, STEPS), ("low", 4), [("low", 1), ("low", 2)]),
            (("above", GEM, STEPS), ("high", [0, 2]), [("high", [0]), ("high", [2])]),
            (("above", GEM, STEPS), ("high", []), [("high", [])]),
        ]
        for kind, state, answer in lists:
            check_call(self, answer, part_list, kind=kind, state=state)
            check_call(self, answer, part_list, kind=as_tuples(kind), state=as_tuples(state))

    def test_at_most_by_parts(self):
        for kind, states in kinds_with_states():
            for one, other in itertools.product(states[:10], repeat=2):
                by_parts = all(is_at_most(kind, each, other) for each in part_list(kind, one))
                self.assertEqual(is_at_most(kind, one, other), by_parts)


class Lacked(unittest.TestCase):
    def test_all(self):
        for kind, states in kinds_with_states():
            for one, other in itertools.product(states[:9], repeat=2):
                answer = [each for each in part_list(kind, one) if not is_at_most(kind, each, other)]
                check_call(self, answer, lacked, kind=kind, one=one, other=other)

    def test_told(self):
        check_call(self, [[("b", 1)]], lacked, kind=NAMES, one=[("a", 5), ("b", 1)], other=[("a", 5)])
        check_call(self, [[("a", 5)]], lacked, kind=NAMES, one=(("a", 5), ("b", 1)), other=[("a", 4), ("b", 2)])
        check_call(self, [], lacked, kind=NAMES, one=[("a", 5)], other=[("a", 5), ("b", 1)])
        check_call(self, [([], 1), ([("a", 1)], 0)], lacked, kind=("pair", NAMES, GEM),
                   one=([("a", 1), ("b", 1)], 4), other=([("b", 3)], 2))
        check_call(self, [([0, 2], 1), ([0, 2], 2)], lacked, kind=("later", STEPS, GEM),
                   one=([0, 2], 4), other=([0, 2], 0))


class Thinned(unittest.TestCase):
    def test_told(self):
        check_call(self, [2, 3], thinned, kind=GEM, states=[1, 2, 3])
        check_call(self, [3, 1], thinned, kind=GEM, states=(2, 3, 1))
        check_call(self, [4], thinned, kind=GEM, states=[1, 2, 3, 4])
        check_call(self, [4], thinned, kind=GEM, states=[4, 4, 4])
        check_call(self, [1, 2], thinned, kind=GEM, states=[4, 1, 2])
        check_call(self, [[("a", 2)]], thinned, kind=NAMES, states=[[("a", 1)], [], [("a", 2)]])
        check_call(self, [[("b", 1)], [("a", 2)]], thinned, kind=NAMES, states=[[("b", 1)], [("a", 2)], [("a", 1)]])
        check_call(self, [[("a", 1), ("b", 1)]], thinned, kind=NAMES, states=[[("a", 1)], [("b", 1)], (("a", 1), ("b", 1))])
        check_call(self, [[("a", 40)]], thinned, kind=NAMES, states=[[("a", many)] for many in range(1, 41)])
        check_call(self, [39], thinned, kind=COUNT, states=list(range(39, -1, -1)))

    def test_nothing(self):
        for kind, _ in kinds_with_states():
            check_call(self, [], thinned, kind=kind, states=[])
            check_call(self, [], thinned, kind=kind, states=())
            check_call(self, [], thinned, kind=kind, states=[least_of(kind)] * 3)

    def test_one_list_twice(self):
        state = [("a", 1)]
        check_call(self, [[("a", 1)]], thinned, kind=NAMES, states=[state, state])
        points = [1]
        check_call(self, [([1], [1])], thinned, kind=("pair", STEPS, STEPS), states=[(points, points)])

    def test_by_steps(self):
        """Each state in its turn, against all others that are still there."""
        for kind, states in kinds_with_states():
            for passed in (states[:8], states[7::-1], states[:4] + states[:4], states[::-2][:9]):
                kept = list(enumerate(passed))
                for place, state in enumerate(passed):
                    others = [each for at, each in kept if at != place]
                    if is_at_most(kind, state, joined(kind, others)):
                        kept = [(at, each) for at, each in kept if at != place]
                answer = [each for _, each in kept]
                check_call(self, answer, thinned, kind=kind, states=passed)
                self.assertEqual(joined(kind, answer), joined(kind, passed))

    def test_parts_become_a_list(self):
        for kind in SMALL:
            parts = [state for at, state in enumerate(Told(kind).states) if at in Told(kind).parts]
            for passed in (parts, parts[::-1]):
                left = thinned(kind, passed)
                self.assertTrue(is_part_list(kind, joined(kind, passed), left))


class ListsJudged(unittest.TestCase):
    def test_all_lots_of_parts(self):
        for kind in SMALL:
            told = Told(kind)
            if len(told.parts) > 6:
                continue
            for size in range(len(told.parts) + 1):
                for lot in itertools.combinations(told.parts, size):
                    value = [told.states[each] for each in lot]
                    for at, state in enumerate(told.states):
                        answer = told.is_list(lot, at)
                        self.assertIs(is_part_list(kind, state, value), answer)
                        self.assertIs(is_part_list(kind, state, tuple(value[::-1])), answer)
                        if value:
                            self.assertIs(is_part_list(kind, state, value + value[:1]), False)

    def test_told(self):
        yes = [
            (GEM, 4, (3, 1)),
            (GEM, 4, [2, 3]),
            (GEM, 0, []),
            (GEM, 0, ()),
            (NAMES, [], []),
            (NAMES, [("a", 1), ("b", 2)], [[("b", 2)], (("a", 1),)]),
            (LATER, ([("a", 1), ("b", 1)], 0), [([("a", 1)], 9), ([("b", 1)], 0)]),
            (LATER, ([("a", 1), ("b", 1)], 0), [([("b", 1)], 3), ([("a", 1)], 9)]),
            (ABOVE, ("high", 0), [("high", 0)]),
            (ABOVE, ("low", 0), []),
        ]
        for kind, state, value in yes:
            check_call(self, True, is_part_list, kind=kind, state=state, value=value)
            check_call(self, True, is_part_list, kind=as_tuples(kind), state=as_tuples(state), value=as_tuples(value))

    def test_no_lists(self):
        no = [
            (GEM, 4, [[1, 2, 3], [4], [1], [], [1, 1, 2], [0, 1, 2], [1, 2, 2], [1, True, 2], [1, "2"], 4, [[1], [2]]]),
            (GEM, 0, [[0], [1], None, False, 0]),
            (GEM, 1, [[True], [1, 1], [0, 1], 1, {1: 1}, "1"]),
            (NAMES, [("a", 1), ("b", 2)], [
                [[("a", 1)]], [[("a", 1)], [("b", 1)]], [[("a", 1), ("b", 2)]], [("a", 1), ("b", 2)],
                [[("a", 1)], [("b", 2)], []], [[("a", 1)], [("b", 2)], (("a", 1),)], [[("a", True)], [("b", 2)]],
                [[["a", 1]], [("b", 2)]], [[("a", 1)], [("b", 2)], None],
            ]),
            (LATER, ([("a", 1), ("b", 1)], 0), [
                [([("a", 1), ("b", 1)], 0)], [([("a", 1)], 0)], [([("a", 1)], 0), ([("b", 1)], 0), ([("b", 1)], 1)],
                [([("a", 1), ("b", 1)], 1)], [[[("a", 1)], 0], [[("b", 1)], 0]],
            ]),
            (ABOVE, ("high", 0), [[("low", 1), ("high", 0)], [("high", 1)], [], [["high", 0]], ("high", 0)]),
            (COUNT, 5, [[4, 5], [5, 5], [0, 5], 5, [True, 5], [6]]),
        ]
        for kind, state, values in no:
            for value in values + ODD_VALUES:
                check_call(self, False, is_part_list, kind=kind, state=state, value=value)


class Refused(unittest.TestCase):
    def test_kinds_first(self):
        for kind in NO_KINDS:
            for function in (is_part, part_list, thinned):
                check_refused(self, InvalidKind, {"value": kind}, function, kind, None)
            for function in (lacked, is_part_list):
                check_refused(self, InvalidKind, {"value": kind}, function, kind, None, None)
            check_refused(self, InvalidKind, {"value": kind}, is_part_list, value=[], state=0, kind=kind)
            check_refused(self, InvalidKind, {"value": kind}, part_list, state=0, kind=kind)

    def test_states(self):
        for value in ODD_VALUES + [["high", 0], ("high", 2), ("high", True), ("low", -1), ("mid", 0), 0, []]:
            for function in (is_part, part_list):
                check_refused(self, InvalidState, {"value": value}, function, ABOVE, value)
                check_refused(self, InvalidState, {"value": value}, function, state=value, kind=ABOVE)
            check_refused(self, InvalidState, {"value": value}, lacked, ABOVE, value, None)
            check_refused(self, InvalidState, {"value": value}, lacked, ABOVE, ("low", 0), value)
            check_refused(self, InvalidState, {"value": value}, lacked, other=("low", 0), one=value, kind=ABOVE)
            check_refused(self, InvalidState, {"value": value}, is_part_list, ABOVE, value, [])
            check_refused(self, InvalidState, {"value": value}, is_part_list, value=None, state=value, kind=ABOVE)

    def test_lists_of_states(self):
        wrong = ODD_VALUES + [[0, True], [0, -1], ["0"], [[0]], {0: 0}, [0] * 41, (0,) * 41, [0] * 40 + [None], 0, "00"]
        for value in wrong:
            check_refused(self, InvalidStates, {"value": value}, thinned, COUNT, value)
            check_refused(self, InvalidStates, {"value": value}, thinned, states=value, kind=COUNT)
        check_call(self, [1], thinned, kind=COUNT, states=[1] * 40)


if __name__ == "__main__":
    unittest.main()
