import itertools
import unittest

from partsmet.differences import difference, is_difference, is_least_difference, lot_distance
from partsmet.errors import Endless, InvalidKind, InvalidState, NotEven, TooMany
from partsmet.grades import grade
from partsmet.joins import is_at_most, join, joined
from partsmet.parts import lacked
from partsmet.states import all_states
from tests.oracle import Told, least_of
from tests.samples import (
    BAG,
    CUBE,
    DIAMOND,
    ENDLESS_KINDS,
    FINITE_KINDS,
    FLAG,
    LISTS_KINDS,
    NAMES,
    NEITHER_KINDS,
    ODD_VALUES,
    SPANS,
    SQUARE,
    STEPS,
    WRONG_KINDS,
    as_tuples,
    check_call,
    check_refused,
)

COUNT = ("count",)
GEM = ("table", DIAMOND)
ROWS = ("later", ("row", 3), COUNT)
ABOVE = ("above", NAMES, STEPS)
NEST = ("map", NAMES)
EVEN_FINITE = [kind for kind in FINITE_KINDS if grade(kind) == "differences" and len(Told(kind).states) <= 16]
OF_TWO = [difference, lot_distance]
OF_VALUE = [is_difference, is_least_difference]
# Kinds, states one and other, and the least difference.
LEAST = [
    (COUNT, 5, 4, 5),
    (COUNT, 5, 5, 0),
    (COUNT, 4, 5, 0),
    (("row", 3), 2, 1, 2),
    (STEPS, [1, 2], [2], [1]),
    (STEPS, [1, 2], [0], [1, 2]),
    (STEPS, [0, 2], [1], [2]),
    (("table", SQUARE), 3, 1, 2),
    (("table", CUBE), 7, 5, 2),
    (NAMES, [("a", 5), ("b", 1)], [("a", 2)], [("a", 5), ("b", 1)]),
    (NAMES, [("a", 5), ("b", 1)], [("a", 7)], [("b", 1)]),
    (NAMES, [], [("a", 7)], []),
    (NEST, [("a", [("x", 1), ("y", 2)]), ("b", [("x", 1)])], [("a", [("x", 1)]), ("b", [("x", 2)])],
     [("a", [("y", 2)])]),
    (("pair", NAMES, COUNT), ([("a", 2)], 3), ([("a", 2)], 2), ([], 3)),
    (("pair", NAMES, COUNT), ([("a", 2)], 3), ([("a", 1)], 3), ([("a", 2)], 0)),
    (ROWS, (1, 4), (1, 2), (1, 4)),
    (ROWS, (1, 4), (1, 4), (0, 0)),
    (ROWS, (1, 4), (2, 0), (0, 0)),
    (ROWS, (1, 0), (0, 9), (1, 0)),
    (ROWS, (1, 4), (0, 9), (1, 4)),
    (("later", COUNT, BAG), (2, [("a", 1), ("b", 1)]), (2, [("b", 1), ("c", 1)]), (2, [("a", 1)])),
    (("later", COUNT, BAG), (2, [("a", 1), ("b", 1)]), (1, [("b", 1), ("c", 1)]), (2, [("a", 1), ("b", 1)])),
    (("later", BAG, ("row", 1)), ([("a", 1), ("b", 1)], 0), ([("b", 1)], 0), ([("a", 1)], 0)),
    (ABOVE, ("high", [1, 2]), ("low", [("a", 4)]), ("high", [1, 2])),
    (ABOVE, ("high", [1, 2]), ("high", [0, 2]), ("high", [1])),
    (ABOVE, ("high", []), ("low", [("a", 4)]), ("high", [])),
    (ABOVE, ("high", []), ("high", []), ("low", [])),
    (ABOVE, ("low", [("a", 4)]), ("high", []), ("low", [])),
    (ABOVE, ("low", [("a", 4), ("b", 2)]), ("low", [("a", 4)]), ("low", [("b", 2)])),
]
# Finite kinds, two states of each, and their lot distance.
DISTANCES = [
    (("row", 20), 19, 0, 19),
    (STEPS, [1, 2], [0], 2),
    (("pair", ("row", 4), FLAG), (3, 0), (1, 1), 3),
    (("later", FLAG, ("row", 3)), (1, 0), (0, 1), 2),
    (GEM, 1, 2, 2),
    (GEM, 4, 1, 2),
    (("later", ("tops", 2, []), ("row", 3)), ([0], 2), ([1], 2), 6),
    (("above", FLAG, FLAG), ("high", 1), ("low", 0), 3),
    (("map", ("row", 1)), [], [], 0),
    # The pairs of rows are too many to be gone through; the second side makes no parts of them.
    (("later", ("pair", ("pair", ("row", 20), ("row", 20)), ("pair", ("row", 20), ("row", 20))), ("row", 1)),
     (((19, 0), (3, 4)), 0), (((0, 1), (3, 19)), 0), 35),
]


def nested(kind, sides):
    """A pair of pairs of so many sides."""
    return kind if sides == 1 else ("pair", nested(kind, sides // 2), nested(kind, sides // 2))


class Least(unittest.TestCase):
    def test_told(self):
        for kind, one, other, answer in LEAST:
            check_call(self, answer, difference, kind=kind, one=one, other=other)
            check_call(self, answer, difference, kind=as_tuples(kind), one=as_tuples(one), other=as_tuples(other))
            check_call(self, True, is_least_difference, kind=kind, one=one, other=other, value=answer)
            check_call(self, True, is_difference, kind=kind, one=one, other=other, value=answer)

    def test_finite_by_all_differences(self):
        for kind in EVEN_FINITE:
            told = Told(kind)
            for one, other in itertools.product(range(len(told.states)), repeat=2):
                least = told.least_difference(one, other)
                named = {"kind": kind, "one": told.states[one], "other": told.states[other]}
                check_call(self, told.states[least], difference, **named)
                found = told.differences(one, other)
                for at, value in enumerate(told.states):
                    self.assertIs(is_difference(**named, value=value), at in found)
                    self.assertIs(is_least_difference(**named, value=value), at == least)

    def test_endless(self):
        for kind, states in ENDLESS_KINDS:
            if grade(kind) != "differences":
                continue
            for one, other in itertools.product(states, repeat=2):
                least = difference(kind, one, other)
                self.assertEqual(least, joined(kind, lacked(kind, one, other)))
                self.assertEqual(join(kind, least, other), join(kind, one, other))
                self.assertTrue(is_at_most(kind, least, one))
                self.assertEqual(least == least_of(kind), is_at_most(kind, one, other))
                for value in states + [least]:
                    answer = is_at_most(kind, one, join(kind, value, other))
                    self.assertIs(is_difference(kind, one, other, value), answer)
                    self.assertIs(is_least_difference(kind, one, other, value), value == least)
                    self.assertTrue(not answer or is_at_most(kind, least, value))

    def test_one_list_twice_within(self):
        points = [0, 2]
        check_call(self, ([0, 2], [0, 2]), difference, kind=("pair", STEPS, STEPS), one=(points, points),
                   other=([], []))


class Differences(unittest.TestCase):
    def test_of_all_grades(self):
        for kind in FINITE_KINDS:
            told = Told(kind)
            if len(told.states) > 14:
                continue
            for one, other in itertools.product(range(len(told.states)), repeat=2):
                found = told.differences(one, other)
                for at, value in enumerate(told.states):
                    named = {"kind": kind, "one": told.states[one], "other": told.states[other], "value": value}
                    self.assertIs(is_difference(**named), at in found)

    def test_told(self):
        yes = [
            (NAMES, [("a", 5)], [("a", 7)], []),
            (NAMES, [("a", 5)], [("a", 4)], [("a", 5), ("b", 9)]),
            (GEM, 4, 1, 2),
            (GEM, 4, 1, 3),
            (STEPS, [1, 2], [2], [1, 2]),
            (("later", BAG, FLAG), ([("a", 1)], 1), ([("a", 1)], 0), ([("b", 1), ("a", 1)][::-1], 0)),
            (("later", BAG, FLAG), ([("a", 1)], 1), ([("a", 1)], 0), ([("b", 1)], 0)),
        ]
        no = [
            (NAMES, [("a", 5)], [("a", 4)], [("a", 4)]),
            (NAMES, [("a", 5)], [("a", 4)], []),
            (GEM, 4, 1, 0),
            (GEM, 4, 1, 1),
            (("later", BAG, FLAG), ([("a", 1)], 1), ([("a", 1)], 0), ([], 1)),
        ]
        for answer, rows in [(True, yes), (False, no)]:
            for kind, one, other, value in rows:
                check_call(self, answer, is_difference, kind=kind, one=one, other=other, value=value)
                check_call(self, answer, is_difference, kind=as_tuples(kind), one=as_tuples(one),
                           other=as_tuples(other),
                           value=as_tuples(value))

    def test_not_least(self):
        check_call(self, False, is_least_difference, kind=NAMES, one=[("a", 5)], other=[], value=[("a", 6)])
        check_call(self, False, is_least_difference, kind=NAMES, one=[("a", 5)], other=[], value=[("a", 4)])
        check_call(self, False, is_least_difference, kind=ROWS, one=(1, 4), other=(1, 2), value=(2, 0))
        check_call(self, True, is_least_difference, kind=ABOVE, one=("high", ()), other=("low", ()), value=("high", ()))

    def test_any_values(self):
        for function in OF_VALUE:
            for value in ODD_VALUES + [[("a", True)], [("a", 0)], [["a", 5]], [("b", 5), ("a", 5)], 5]:
                check_call(self, False, function, kind=NAMES, one=[("a", 5)], other=[], value=value)
            for value in [True, "1", [1], (1,), -1, None]:
                check_call(self, False, function, kind=COUNT, one=1, other=0, value=value)
            check_call(self, False, function, kind=COUNT, one=0, other=0, value=False)


class Lots(unittest.TestCase):
    def test_told(self):
        for kind, one, other, answer in DISTANCES:
            check_call(self, answer, lot_distance, kind=kind, one=one, other=other)
            check_call(self, answer, lot_distance, kind=as_tuples(kind), one=as_tuples(other), other=as_tuples(one))

    def test_by_all_states(self):
        for kind in FINITE_KINDS:
            told = Told(kind)
            if len(told.states) > 20:
                continue
            lots = [told.lot(at) for at in range(len(told.states))]
            for one, other in itertools.product(range(len(told.states)), repeat=2):
                apart = [part for part in lots[one] + lots[other] if (part in lots[one]) != (part in lots[other])]
                check_call(self, len(apart), lot_distance, kind=kind, one=told.states[one], other=told.states[other])

    def test_facts(self):
        for kind in [("later", STEPS, FLAG), ("pair", GEM, FLAG), ("table", SPANS)]:
            states = all_states(kind)
            far = {(one, other): lot_distance(kind, states[one], states[other])
                   for one in range(len(states)) for other in range(len(states))}
            for one, other in far:
                self.assertEqual(far[one, other] == 0, one == other)
                self.assertEqual(far[one, other], far[other, one])
                for third in range(len(states)):
                    self.assertLessEqual(far[one, other], far[one, third] + far[third, other])

    def test_two_hundred(self):
        """Of later rows there are 20 * 9 + 19 parts, with a row beside them so many as are told."""
        later = ("later", ("row", 20), ("row", 10))
        bottom, top = ((0, 0), 0), ((19, 9), 1)
        check_call(self, 200, lot_distance, kind=("pair", later, FLAG), one=top, other=bottom)
        check_call(self, 1, lot_distance, kind=("pair", later, FLAG), one=bottom, other=((0, 0), 1))
        low = ("pair", ("row", 20), FLAG)
        check_call(self, 200, lot_distance, kind=("above", low, ("later", ("row", 20), ("row", 9))),
                   one=("low", (0, 0)), other=("high", (19, 8)))
        many = {"what": "parts", "limit": 200}
        check_refused(self, TooMany, many, lot_distance, ("pair", later, ("row", 3)), top, bottom)
        check_refused(self, TooMany, many, lot_distance, ("above", later, FLAG), ("low", (0, 0)), ("low", (0, 0)))
        check_refused(self, TooMany, many, lot_distance, ("later", nested(("row", 20), 4), FLAG),
                      (((0, 0), (0, 0)), 0), (((0, 0), (0, 0)), 0))
        check_refused(self, TooMany, many, lot_distance, other=((0, 0), []), one=((0, 0), []),
                      kind=("pair", later, STEPS))

    def test_endless(self):
        for kind, states in ENDLESS_KINDS:
            check_refused(self, Endless, {}, lot_distance, kind, states[0], states[1])
        wide = ("later", ("row", 20), ("row", 20))
        check_refused(self, Endless, {}, lot_distance, ("pair", wide, COUNT), ((0, 0), 0), ((0, 0), 0))


class Refused(unittest.TestCase):
    def test_kinds(self):
        for value in WRONG_KINDS:
            for function in OF_TWO:
                check_refused(self, InvalidKind, {"value": value}, function, value, None, None)
                check_refused(self, InvalidKind, {"value": value}, function, other=0, one=0, kind=value)
            for function in OF_VALUE:
                check_refused(self, InvalidKind, {"value": value}, function, value, None, None, None)
                check_refused(self, InvalidKind, {"value": value}, function, value=0, other=0, one=0, kind=value)

    def test_states(self):
        """States ahead of what the kind is like: of all these kinds no call would go well."""
        rows = [
            (("pair", GEM, FLAG), (0, 0), ODD_VALUES + [(0, 2), (0, True), [0, 0], (0,), 0]),
            (("later", BAG, FLAG), ([], 0), ODD_VALUES + [([("a", 0)], 0), ([("a", True)], 0), ([], 2), []]),
            (ABOVE, ("low", []), ODD_VALUES + [("low", 0), ("mid", []), ["low", []], ("high", [0, 1])]),
        ]
        for kind, good, values in rows:
            for value in values:
                for function in OF_TWO:
                    check_refused(self, InvalidState, {"value": value}, function, kind, value, None)
                    check_refused(self, InvalidState, {"value": value}, function, kind, good, value)
                    check_refused(self, InvalidState, {"value": value}, function, other=good, one=value, kind=kind)
                for function in OF_VALUE:
                    check_refused(self, InvalidState, {"value": value}, function, kind, value, None, None)
                    check_refused(self, InvalidState, {"value": value}, function, kind, good, value, None)
                    check_refused(self, InvalidState, {"value": value}, function, value=good, other=value, one=good,
                                  kind=kind)

    def test_not_even(self):
        for kind in LISTS_KINDS + NEITHER_KINDS:
            least = least_of(kind)
            check_refused(self, NotEven, {}, difference, kind, least, least)
            check_refused(self, NotEven, {}, difference, other=least, one=least, kind=kind)
            for value in (least, None):
                check_refused(self, NotEven, {}, is_least_difference, kind, least, least, value)
            check_call(self, True, is_difference, kind=kind, one=least, other=least, value=least)


if __name__ == "__main__":
    unittest.main()
