import unittest

from partsmet.errors import InvalidKind, InvalidState, InvalidWay
from partsmet.grades import grade, kind_at, led_out, ways
from partsmet.joins import is_at_most
from partsmet.kinds import is_kind, is_single, told_kind
from partsmet.parts import is_part, part_list
from partsmet.states import is_state, least_state
from tests.oracle import Told
from tests.samples import (
    BAG,
    DIAMOND,
    EVEN_KINDS,
    FINITE_KINDS,
    FLAG,
    LISTS_KINDS,
    NAMES,
    NEITHER_KINDS,
    ODD_VALUES,
    SPANS,
    SQUARE,
    STEPS,
    WRONG_KINDS,
    as_tuples,
    check_call,
    check_refused,
    kinds_with_states,
    small_tables,
)

COUNT = ("count",)
DEEP = ("map", ("pair", ("later", COUNT, STEPS), ("above", ("table", DIAMOND), FLAG)))
DEEP_WAYS = [
    [],
    ["inner"],
    ["inner", "first"],
    ["inner", "first", "first"],
    ["inner", "first", "second"],
    ["inner", "second"],
    ["inner", "second", "high"],
    ["inner", "second", "low"],
]
# Kinds, and values in the place of a way that are none of them.
NO_WAYS = [
    (COUNT, [["inner"], ["first"], ["low"], [""], [[]], "", "inner", None, 0]),
    (BAG, [["first"], ["inner", "inner"], ["Inner"], "inner", [b"inner"], [["inner"]], ["inner", None], {"inner": 1}]),
    (("pair", FLAG, BAG), [["low"], ["inner"], ["second", "first"], ["first", "inner"], [0], [1], [True], "first"]),
    (("later", FLAG, BAG), [["high"], ["inner", "second"], ["second", "inner", "inner"], ("second", 0)]),
    (("above", FLAG, BAG), [["first"], ["second"], ["high", "high"], ["low", "low"], "low", {"low"}, ["high", ""]]),
]
# All of these but ("low",) are ways of no kind.
ODD_WAYS = [value for value in ODD_VALUES if value != ("low",)]


def grade_told(kind):
    """The grade, by all states of a finite kind."""
    told = Told(kind)
    if told.has_least_differences():
        return "differences"
    return "lists" if told.has_single_lists() else "neither"


class Grades(unittest.TestCase):
    def check(self, answer, kind):
        check_call(self, answer, grade, kind=kind)
        check_call(self, answer, grade, kind=as_tuples(kind))

    def test_told(self):
        for answer, kinds in [("differences", EVEN_KINDS), ("lists", LISTS_KINDS), ("neither", NEITHER_KINDS)]:
            for kind in kinds:
                self.check(answer, kind)

    def test_finite_by_all_states(self):
        answers = []
        for kind in FINITE_KINDS:
            if len(Told(kind).states) <= 20:
                answers.append(grade_told(kind))
                self.check(answers[-1], kind)
        self.assertEqual({each: answers.count(each) > 1 for each in answers},
                         {"differences": True, "lists": False, "neither": True})

    def test_small_tables(self):
        for table in small_tables(4):
            self.check(grade_told(("table", table)), ("table", table))

    def test_within_others(self):
        """All kinds but later take the worst grade of what stands in them."""
        for answer, kinds in [("differences", EVEN_KINDS), ("lists", LISTS_KINDS), ("neither", NEITHER_KINDS)]:
            for kind in kinds:
                if not is_kind(("map", kind)):
                    continue
                self.check(answer, ("map", kind))
                self.check(answer, ("pair", COUNT, kind))
                self.check(answer, ("pair", kind, COUNT))
                self.check(answer, ("above", BAG, kind))
                self.check(answer, ("above", kind, BAG))
                self.check(answer, ("later", COUNT, kind))
                self.check("neither" if answer == "neither" else "lists", ("pair", ("table", SPANS), kind))

    def test_laters_over_no_line(self):
        """A later over no line is bad but for a second kind of one state."""
        for first in [BAG, NAMES, STEPS, ("tops", 2, []), ("pair", COUNT, COUNT), ("above", FLAG, BAG),
                      ("table", SQUARE)]:
            for second in EVEN_KINDS:
                if is_kind(("later", first, second)):
                    self.check("differences" if is_single(second) else "neither", ("later", first, second))
            self.check("neither", ("later", first, ("table", SPANS)))

    def test_refused(self):
        for value in WRONG_KINDS:
            check_refused(self, InvalidKind, {"value": value}, grade, value)
            check_refused(self, InvalidKind, {"value": value}, grade, kind=value)


class Ways(unittest.TestCase):
    def test_ways(self):
        answers = [
            (COUNT, [[]]),
            (("table", DIAMOND), [[]]),
            (BAG, [[], ["inner"]]),
            (("map", ("map", NAMES)), [[], ["inner"], ["inner"] * 2, ["inner"] * 3]),
            (("pair", BAG, COUNT), [[], ["first"], ["first", "inner"], ["second"]]),
            (("later", FLAG, FLAG), [[], ["first"], ["second"]]),
            (("above", FLAG, BAG), [[], ["high"], ["high", "inner"], ["low"]]),
            (DEEP, DEEP_WAYS),
        ]
        for kind, answer in answers:
            check_call(self, answer, ways, kind=kind)
            check_call(self, answer, ways, kind=as_tuples(kind))

    def test_kinds_at_them(self):
        inner = DEEP[1]
        kinds = [DEEP, inner, inner[1], COUNT, STEPS, inner[2], FLAG, ("table", DIAMOND)]
        for way, kind in zip(DEEP_WAYS, kinds):
            check_call(self, kind, kind_at, kind=DEEP, way=way)
            check_call(self, kind, kind_at, kind=as_tuples(DEEP), way=tuple(way))

    def test_as_told(self):
        kind = ("pair", ("tops", 3, ((1, 2), (0, 1), (1, 2))), ("table", ((0, 1), (1, 1))))
        check_call(self, ("tops", 3, [(0, 1), (1, 2)]), kind_at, kind=kind, way=["first"])
        check_call(self, ("table", [[0, 1], [1, 1]]), kind_at, kind=kind, way=("second",))
        check_call(self, told_kind(kind), kind_at, kind=kind, way=())

    def test_all_kinds(self):
        for kind in EVEN_KINDS + LISTS_KINDS + NEITHER_KINDS:
            found = ways(kind)
            self.assertEqual(found, sorted(found))
            self.assertEqual(len(found), len({tuple(way) for way in found}))
            self.assertEqual(kind_at(kind, []), told_kind(kind))
            self.assertTrue(all(is_kind(kind_at(kind, way)) for way in found))
            steps = {tuple(way[:-1]) for way in found if way}
            self.assertTrue(all(list(way) in found for way in steps))

    def test_refused(self):
        for value in WRONG_KINDS:
            check_refused(self, InvalidKind, {"value": value}, ways, value)
            check_refused(self, InvalidKind, {"value": value}, ways, kind=value)
            check_refused(self, InvalidKind, {"value": value}, kind_at, value, None)
            check_refused(self, InvalidKind, {"value": value}, kind_at, way=["inner"], kind=value)
        for kind, values in NO_WAYS:
            for value in values + ODD_WAYS:
                check_refused(self, InvalidWay, {"value": value}, kind_at, kind, value)
                check_refused(self, InvalidWay, {"value": value}, kind_at, way=value, kind=kind)


class LedOut(unittest.TestCase):
    def test_each_word(self):
        answers = [
            (COUNT, [], 7, 7),
            (STEPS, [], [0, 2], [0, 2]),
            (BAG, ["inner"], 1, [("a", 1)]),
            (BAG, ["inner"], 0, []),
            (("pair", COUNT, STEPS), ["first"], 3, (3, [])),
            (("pair", COUNT, STEPS), ["second"], [1], (0, [1])),
            (("later", COUNT, NAMES), ["first"], 3, (3, [])),
            (("later", COUNT, NAMES), ["second"], [("b", 2)], (0, [("b", 2)])),
            (("above", NAMES, STEPS), ["low"], [("b", 2)], ("low", [("b", 2)])),
            (("above", NAMES, STEPS), ["high"], [2], ("high", [2])),
            (("above", NAMES, STEPS), ["high"], [], ("high", [])),
            (("above", NAMES, STEPS), ["low"], [], ("low", [])),
            (("map", NAMES), ["inner", "inner"], 4, [("a", [("a", 4)])]),
            (("map", NAMES), ["inner", "inner"], 0, []),
            (("map", ("above", COUNT, COUNT)), ["inner", "high"], 0, [("a", ("high", 0))]),
            (("map", ("above", COUNT, COUNT)), ["inner", "low"], 0, []),
            (("pair", BAG, ("map", ("pair", STEPS, COUNT))), ["second", "inner", "first"], [2],
             ([], [("a", ([2], 0))])),
            (DEEP, ["inner", "first", "second"], [0], [("a", ((0, [0]), ("low", 0)))]),
            (DEEP, ["inner", "second", "high"], 0, [("a", ((0, []), ("high", 0)))]),
            (DEEP, ["inner", "second", "low"], 4, [("a", ((0, []), ("low", 4)))]),
            (DEEP, ["inner", "second"], ("low", 0), []),
        ]
        for kind, way, state, answer in answers:
            check_call(self, answer, led_out, kind=kind, way=way, state=state)
            check_call(self, answer, led_out, kind=as_tuples(kind), way=tuple(way), state=as_tuples(state))

    def test_order_and_parts(self):
        """States keep their order along each way; parts stay parts."""
        for kind, states in kinds_with_states():
            for whole, way in [
                (("map", kind), ["inner"]),
                (("pair", COUNT, kind), ["second"]),
                (("later", kind, FLAG), ["first"]),
                (("above", kind, BAG), ["low"]),
                (("above", BAG, kind), ["high"]),
            ]:
                if not is_kind(whole):
                    continue
                led = [led_out(whole, way, state) for state in states[:8]]
                self.assertTrue(all(is_state(whole, each) for each in led))
                for one, state in zip(led, states):
                    self.assertEqual(is_part(whole, one), is_part(kind, state) or one == ("high", least_state(kind)))
                    for other, beyond in zip(led, states):
                        self.assertEqual(is_at_most(whole, one, other), is_at_most(kind, state, beyond))
                    if state != least_state(kind):
                        self.assertEqual(part_list(whole, one),
                                         [led_out(whole, way, each) for each in part_list(kind, state)])

    def test_one_list_twice_within(self):
        points = [0, 2]
        kind = ("map", ("pair", STEPS, STEPS))
        check_call(self, [("a", ([0, 2], [0, 2]))], led_out, kind=kind, way=["inner"], state=(points, points))

    def test_refused(self):
        for value in WRONG_KINDS:
            check_refused(self, InvalidKind, {"value": value}, led_out, value, None, None)
            check_refused(self, InvalidKind, {"value": value}, led_out, state=0, way=[], kind=value)
        for kind, values in NO_WAYS:
            for value in values + ODD_WAYS:
                check_refused(self, InvalidWay, {"value": value}, led_out, kind, value, None)
                check_refused(self, InvalidWay, {"value": value}, led_out, state=0, way=value, kind=kind)
        wrong = [
            (BAG, ["inner"], [True, 2, -1, [("a", 1)], [], None]),
            (BAG, [], [1, [("a", True)], [("b", 1), ("a", 1)], None]),
            (DEEP, ["inner", "second", "low"], [True, 5, ("low", 4), None]),
            (DEEP, ["inner", "first"], [[0, []], (0, [0, 1]), (True, []), 0, ([], 0)]),
        ]
        for kind, way, values in wrong:
            for value in values:
                check_refused(self, InvalidState, {"value": value}, led_out, kind, way, value)
                check_refused(self, InvalidState, {"value": value}, led_out, state=value, way=tuple(way), kind=kind)


if __name__ == "__main__":
    unittest.main()
