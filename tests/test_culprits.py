import itertools
import unittest

from partsmet.culprits import culprit, differences_by, is_culprit, lists_by
from partsmet.errors import InvalidCulprit, InvalidKind, InvalidWord
from partsmet.grades import kind_at
from partsmet.joins import is_at_most, join, joined
from partsmet.kinds import is_kind
from partsmet.parts import is_part
from partsmet.states import all_states, is_state
from tests.oracle import Told
from tests.samples import (
    BAG,
    DIAMOND,
    EVEN_KINDS,
    FINITE_KINDS,
    FLAG,
    GEMS,
    LISTS_KINDS,
    NAMES,
    NEITHER_KINDS,
    ODD_VALUES,
    PENTAGON,
    SPANS,
    SQUARE,
    STEPS,
    WRONG_KINDS,
    as_tuples,
    check_call,
    check_refused,
    renumbered,
)

COUNT = ("count",)
GEM = ("table", DIAMOND)
AHEAD = ("later", BAG, FLAG)
WORDS = ["lists", "differences"]
WRONG_WORDS = ODD_VALUES + ["neither", "list", "Lists", "lists ", ["lists"], ("lists",), b"lists", "difference"]
# A kind with a bad later in a bad table's company, and a good later.
MIXED = ("pair", ("later", STEPS, NAMES), ("above", ("table", PENTAGON), ("later", COUNT, STEPS)))
TO_LATER, TO_TABLE, TO_GOOD = ["first"], ["second", "low"], ["second", "high"]


def is_list(kind, states, goal):
    """Whether these are parts, and their join is the goal, but not without any one of them."""
    if not all(is_part(kind, each) for each in states) or joined(kind, states) != goal:
        return False
    return all(joined(kind, states[:at] + states[at + 1:]) != goal for at in range(len(states)))


def is_culprit_told(kind, word, way, paper):
    """Whether it is a culprit, by all states of the finite kind at the way."""
    inner = kind_at(kind, way)
    if inner[0] == "later":
        one, other, more = paper
        firsts = Told(inner[1])
        one, other = firsts.states.index(one), firsts.states.index(other)
        return not firsts.order[one][other] and not firsts.order[other][one] and more != all_states(inner[2])[0]
    told = Told(inner)
    if word == "lists":
        lists = told.lists(paper[0])
        one, other = sorted(paper[1]), sorted(paper[2])
        return one in lists and other in lists and one != other
    found = told.differences(paper[0], paper[1])
    below = [each for each in found if told.order[each][paper[2]] and told.order[each][paper[3]]]
    return paper[2] in found and paper[3] in found and not below


class Culprits(unittest.TestCase):
    def test_there_are_some(self):
        for kinds, none in [(EVEN_KINDS, WORDS), (LISTS_KINDS, ["lists"]), (NEITHER_KINDS, [])]:
            for kind in kinds:
                for word in WORDS:
                    found = culprit(kind, word)
                    check_call(self, found, culprit, kind=kind, word=word)
                    self.assertEqual(culprit(as_tuples(kind), word), found)
                    if word in none:
                        self.assertIsNone(found)
                        continue
                    check_call(self, True, is_culprit, kind=kind, word=word, value=found)
                    check_call(self, True, is_culprit, kind=as_tuples(kind), word=word, value=as_tuples(found))
                    self.assertTrue(isinstance(found, tuple) and isinstance(found[0], list))

    def test_found_ones_by_all_states(self):
        seen = 0
        for kind in FINITE_KINDS:
            for word in WORDS:
                found = culprit(kind, word)
                if found is not None:
                    self.assertTrue(is_culprit_told(kind, word, *found), (kind, found))
                    seen += 1
        self.assertGreater(seen, 10)

    def test_first_kinds_of_all_words(self):
        """Two states beside one another are found in each kind that is no line."""
        firsts = [
            ("tops", 3, [(0, 1)]),
            ("tops", 6, [(5, 4), (4, 3), (3, 2), (2, 1)]),
            ("table", SQUARE),
            ("table", renumbered(SQUARE, [0, 3, 2, 1])),
            BAG,
            ("map", ("map", STEPS)),
            ("map", ("above", ("row", 1), ("row", 1))),
            ("map", ("pair", ("row", 1), ("later", ("row", 1), STEPS))),
            ("pair", COUNT, FLAG),
            ("pair", ("row", 1), STEPS),
            ("pair", BAG, ("row", 1)),
            ("pair", BAG, STEPS),
            ("later", STEPS, ("row", 1)),
            ("later", COUNT, BAG),
            ("later", ("row", 1), BAG),
            ("above", FLAG, BAG),
            ("above", BAG, FLAG),
            ("above", ("above", COUNT, STEPS), FLAG),
        ]
        seconds = [FLAG, COUNT, STEPS, ("table", SQUARE), BAG, ("pair", ("row", 1), FLAG),
                   ("above", ("row", 1), ("row", 1)),
                   ("above", FLAG, BAG), ("above", BAG, FLAG), ("later", FLAG, STEPS), ("map", FLAG)]
        for first, second in itertools.product(firsts, seconds):
            kind = ("later", first, second)
            if not is_kind(kind):
                continue
            for word in WORDS:
                found = culprit(kind, word)
                check_call(self, True, is_culprit, kind=kind, word=word, value=found)
                self.check_what_it_tells(kind, word, found)

    def test_what_they_tell(self):
        for kind in NEITHER_KINDS:
            self.check_what_it_tells(kind, "lists", culprit(kind, "lists"))
        for kind in NEITHER_KINDS + LISTS_KINDS:
            self.check_what_it_tells(kind, "differences", culprit(kind, "differences"))

    def check_what_it_tells(self, kind, word, found):
        if word == "lists":
            state, one, other = lists_by(kind, found)
            check_call(self, (state, one, other), lists_by, kind=kind, value=found)
            check_call(self, (state, one, other), lists_by, kind=as_tuples(kind), value=as_tuples(found))
            self.assertTrue(is_list(kind, one, state) and is_list(kind, other, state), (kind, found))
            self.assertEqual((one, other), (sorted(one), sorted(other)))
            self.assertNotEqual(one, other)
            return
        one, other, first, second = differences_by(kind, found)
        check_call(self, (one, other, first, second), differences_by, kind=kind, value=found)
        check_call(self, (one, other, first, second), differences_by, kind=as_tuples(kind), value=as_tuples(found))
        self.assertTrue(is_at_most(kind, one, join(kind, first, other)))
        self.assertTrue(is_at_most(kind, one, join(kind, second, other)))
        if kind in FINITE_KINDS:
            for each in Told(kind).states:
                if is_at_most(kind, each, first) and is_at_most(kind, each, second):
                    self.assertFalse(is_at_most(kind, one, join(kind, each, other)))

    def test_finite_differences_by_all_states(self):
        for kind in FINITE_KINDS:
            found = culprit(kind, "differences")
            if found is not None:
                self.check_what_it_tells(kind, "differences", found)


class Judged(unittest.TestCase):
    def check_papers(self, kind, word, way, papers):
        answers = []
        for paper in papers:
            answer = is_culprit_told(kind, word, way, paper)
            answers.append(answer)
            self.assertIs(is_culprit(kind, word, (way, paper)), answer, (kind, word, paper))
            self.assertIs(is_culprit(kind, word, as_tuples((way, paper))), answer)
        return answers

    def test_lists_of_tables(self):
        for table in (DIAMOND, PENTAGON):
            lots = [list(lot) for size in range(4) for lot in itertools.combinations(range(5), size)]
            lots += [[2, 1], [3, 1, 2], [3, 1], [1, 1], [3, 3]]
            papers = [(number, one, other) for number in range(5) for one in lots for other in lots]
            self.assertIn(True, self.check_papers(("pair", COUNT, ("table", table)), "lists", ["second"], papers))

    def test_no_lists_of_single_ones(self):
        for table in (SQUARE, SPANS):
            lots = [[], [1], [1, 2], [2, 1], [1, 2, 3], [3], [1, 3]]
            papers = [(number, one, other) for number in range(4) for one in lots for other in lots]
            self.assertNotIn(True, self.check_papers(("table", table), "lists", [], papers))

    def test_differences_of_tables(self):
        for table in (DIAMOND, PENTAGON, SPANS, SQUARE):
            papers = list(itertools.product(range(len(table)), repeat=4))
            answers = self.check_papers(("above", BAG, ("table", table)), "differences", ["high"], papers)
            self.assertEqual(True in answers, table != SQUARE)

    def test_laters(self):
        for kind in [("later", STEPS, ("row", 3)), ("later", GEM, STEPS), ("later", FLAG, STEPS),
                     ("later", STEPS, ("row", 1))]:
            papers = list(itertools.product(all_states(kind[1]), all_states(kind[1]), all_states(kind[2])))
            for word in WORDS:
                answers = self.check_papers(("map", kind), word, ["inner"], papers)
                self.assertEqual(True in answers, kind[1] != FLAG and kind[2] != ("row", 1))

    def test_told(self):
        yes = [
            (MIXED, "lists", (TO_LATER, ([0], [2], [("a", 1)]))),
            (MIXED, "differences", (TO_LATER, ([0, 2], [1], [("b", 3), ("c", 1)]))),
            (MIXED, "lists", (TO_TABLE, (4, [1, 3], [3, 2]))),
            (MIXED, "differences", (TO_TABLE, (2, 1, 2, 3))),
            (("later", COUNT, GEM), "lists", (["second"], (4, [2, 3], [1, 2]))),
            (("later", GEM, ("row", 1)), "lists", (["first"], (4, [2, 3], [1, 2]))),
            (("table", renumbered(DIAMOND, [0, 4, 1, 2, 3])), "lists", ([], (1, [2, 3], [4, 2]))),
            (("later", GEM, FLAG), "lists", ([], (1, 3, 1))),
            (("later", GEM, FLAG), "lists", (["first"], (4, [2, 3], [1, 2]))),
        ]
        for kind, word, value in yes:
            check_call(self, True, is_culprit, kind=kind, word=word, value=value)
            check_call(self, True, is_culprit, kind=as_tuples(kind), word=word, value=as_tuples(value))

    def test_no_culprits(self):
        lists = (TO_TABLE, (4, [1, 3], [2, 3]))
        sides = (TO_TABLE, (2, 1, 2, 3))
        later = (TO_LATER, ([0], [2], [("a", 1)]))
        no = [
            ("lists", [sides, (TO_TABLE, (4, [1, 3])), (TO_TABLE, (4, [1, 3], [2, 3], [2])),
                       (TO_TABLE, [4, [1, 3], [2, 3]]),
                       (TO_TABLE, (4, [1, 3], [3, 1])), (TO_TABLE, (4, [1, 3], [1, 3])),
                       (TO_TABLE, (4, [1, 2, 3], [2, 3])),
                       (TO_TABLE, (4, [1, 3], [2, 3, 3])), (TO_TABLE, (True, [1], [1])),
                       (TO_TABLE, (5, [1, 3], [2, 3])),
                       (TO_TABLE, (4, [True, 3], [2, 3])), (TO_TABLE, (4, [4], [1, 3])), (TO_TABLE, (4, [1, 3], 2)),
                       (TO_TABLE, (4, [], [1, 3])), (TO_TABLE, (4, "13", [2, 3])), (TO_TABLE, (None, [1, 3], [2, 3])),
                       (TO_TABLE, (-1, [1, 3], [2, 3])), (TO_TABLE, (4, {1, 3}, {2, 3})), (["second"], lists[1])]),
            ("differences", [lists, (TO_TABLE, (2, 1, 2)), (TO_TABLE, (2, 1, 2, 3, 3)), (TO_TABLE, [2, 1, 2, 3]),
                             (TO_TABLE, (2, 1, 2, 2)), (TO_TABLE, (2, True, 2, 3)), (TO_TABLE, (2, 1, 2, 5)),
                             (TO_TABLE, (2, 1, -1, 3)), (TO_TABLE, (2, 1, 1, 3)), (TO_TABLE, (2, 1, 3, 1)),
                             (TO_TABLE, (1, 2, 0, 0)), (TO_TABLE, (2, 1, 2, "3")), (TO_TABLE, (2, 1, [2], [3]))]),
        ]
        both = [
            (TO_LATER, ([0], [1], [("a", 1)])), (TO_LATER, ([0], [0], [("a", 1)])), (TO_LATER, ([0], [2], [])),
            (TO_LATER, ([0], [2])), (TO_LATER, ([0], [2], [("a", 1)], 0)), (TO_LATER, [[0], [2], [("a", 1)]]),
            (TO_LATER, ([False], [2], [("a", 1)])), (TO_LATER, ([0], [3], [("a", 1)])),
            (TO_LATER, ([0], [2], [("a", 0)])),
            (TO_LATER, ([0], [2], [("a", True)])), (TO_LATER, ([0, 1], [2], [("a", 1)])),
            (TO_LATER, ([], [2], [("a", 1)])),
            (TO_LATER, ([("a", 1)], [0], [2])), (TO_LATER, None), (TO_TABLE, None), (TO_LATER, lists[1]),
            (TO_TABLE, later[1]),
            (["second"], later[1]), ([], later[1]), (["first", "first"], later[1]), (["first", "inner"], later[1]),
            (TO_GOOD, (0, 1, [0])),
            (TO_GOOD, (1, 1, [0])), (TO_GOOD, (1, 0, [])), (["nowhere"], later[1]), ("first", later[1]),
            (None, later[1]),
            (["first", None], later[1]), [TO_LATER, later[1]], (TO_LATER,), (TO_LATER, later[1], 0),
            ([TO_LATER], later[1]),
            TO_LATER, later[1], (),
        ]
        for word, values in no:
            for value in values + both + ODD_VALUES:
                check_call(self, False, is_culprit, kind=MIXED, word=word, value=value)
        turned = ("table", renumbered(DIAMOND, [0, 4, 1, 2, 3]))
        check_call(self, False, is_culprit, kind=turned, word="lists", value=([], (True, [2, 3], [4, 2])))
        for kind in [COUNT, BAG, ("later", COUNT, COUNT), ("table", SQUARE)]:
            for word in WORDS:
                for value in both + ODD_VALUES + [([], (0, 0, 0)), ([], (1, 0, 1)), ([], (3, [1, 2], [2, 1])),
                                                  ([], (1, 1, 1, 1))]:
                    check_call(self, False, is_culprit, kind=kind, word=word, value=value)


class Told45(unittest.TestCase):
    """What culprits tell, answer by answer."""

    def test_lists(self):
        low = ([], [("a", 1)])
        answers = [
            (GEM, ([], (4, [3, 2], [1, 2])), (4, [2, 3], [1, 2])),
            (("above", BAG, GEM), (["high"], (4, (3, 2), (1, 2))),
             (("high", 4), [("high", 2), ("high", 3)], [("high", 1), ("high", 2)])),
            (("map", ("pair", COUNT, GEM)), (["inner", "second"], (4, [1, 3], [1, 2])),
             ([("a", (0, 4))], [[("a", (0, 1))], [("a", (0, 3))]], [[("a", (0, 1))], [("a", (0, 2))]])),
            (AHEAD, ([], ([("b", 1)], [("a", 1)], 1)),
             (([("a", 1), ("b", 1)], 0), [([("a", 1)], 0), ([("b", 1)], 0)], [([("a", 1)], 0), ([("b", 1)], 1)])),
            # Behind one another [a1, b1, b1, c1]: the first b goes.
            (AHEAD, ([], ([("a", 1), ("b", 1)], [("b", 1), ("c", 1)], 1)),
             (([("a", 1), ("b", 1), ("c", 1)], 0), [([("a", 1)], 0), ([("b", 1)], 0), ([("c", 1)], 0)],
              [([("a", 1)], 1), ([("b", 1)], 0), ([("c", 1)], 0)])),
            # Behind one another [a5, b1, a3, b2]: the second and the third go.
            (("later", NAMES, NAMES), ([], ([("a", 5), ("b", 1)], [("a", 3), ("b", 2)], [("x", 2), ("y", 1)])),
             (([("a", 5), ("b", 2)], []), [([("a", 5)], []), ([("b", 2)], [])],
              [([("a", 5)], [("x", 2)]), ([("b", 2)], [])])),
            (("later", NAMES, GEM), ([], ([("a", 1), ("b", 2)], [("a", 3)], 4)),
             (([("a", 3), ("b", 2)], 0), [([("a", 3)], 0), ([("b", 2)], 0)], [([("a", 3)], 0), ([("b", 2)], 1)])),
            (("later", BAG, ("above", FLAG, STEPS)), ([], ([("a", 1)], [("b", 1)], ("high", []))),
             (([("a", 1), ("b", 1)], ("low", 0)), [([("a", 1)], ("low", 0)), ([("b", 1)], ("low", 0))],
              [([("a", 1)], ("high", [])), ([("b", 1)], ("low", 0))])),
            (("later", GEM, COUNT), ([], (3, 2, 9)), ((4, 0), [(2, 0), (3, 0)], [(2, 0), (3, 9)])),
            (("pair", ("map", ("later", STEPS, FLAG)), COUNT), (["first", "inner"], ([2], [0], 1)),
             (([("a", ([0, 2], 0))], 0), [([("a", ([0], 0))], 0), ([("a", ([2], 0))], 0)],
              [([("a", ([0], 0))], 0), ([("a", ([2], 1))], 0)])),
            (("above", FLAG, ("later", STEPS, BAG)), (["high"], ([0], [2], low[1])),
             (("high", ([0, 2], [])), [("high", ([0], [])), ("high", ([2], []))],
              [("high", ([0], low[1])), ("high", ([2], []))])),
        ]
        for kind, value, answer in answers:
            check_call(self, answer, lists_by, kind=kind, value=value)
            check_call(self, answer, lists_by, kind=as_tuples(kind), value=as_tuples(value))
            self.assertTrue(is_list(kind, answer[1], answer[0]) and is_list(kind, answer[2], answer[0]))

    def test_differences(self):
        answers = [
            (GEM, ([], (1, 2, 1, 3)), (1, 2, 1, 3)),
            (("map", ("above", BAG, ("table", PENTAGON))), (["inner", "high"], (2, 1, 2, 3)),
             ([("a", ("high", 2))], [("a", ("high", 1))], [("a", ("high", 2))], [("a", ("high", 3))])),
            (("map", ("above", ("table", PENTAGON), BAG)), (["inner", "low"], (2, 1, 3, 2)),
             ([("a", ("low", 2))], [("a", ("low", 1))], [("a", ("low", 3))], [("a", ("low", 2))])),
            (("later", NAMES, BAG), ([], ([("a", 3)], [("b", 1)], [("x", 1)])),
             (([("a", 3)], [("x", 1)]), ([("a", 3)], []), ([("a", 3)], [("x", 1)]), ([("b", 1)], []))),
            (("pair", COUNT, ("later", STEPS, STEPS)), (["second"], ([0, 2], [1], [1, 2])),
             ((0, ([0, 2], [1, 2])), (0, ([0, 2], [])), (0, ([0, 2], [1, 2])), (0, ([1], [])))),
        ]
        for kind, value, answer in answers:
            check_call(self, answer, differences_by, kind=kind, value=value)
            check_call(self, answer, differences_by, kind=as_tuples(kind), value=as_tuples(value))
            one, other, first, second = answer
            self.assertTrue(is_at_most(kind, one, join(kind, first, other)) and is_at_most(kind, one,
                                                                                           join(kind, second, other)))

    def test_all_of_small_laters(self):
        for kind in [("later", STEPS, ("row", 3)), ("later", ("table", GEMS), FLAG), ("later", GEM, ("table", SQUARE))]:
            firsts, seconds = all_states(kind[1]), all_states(kind[2])
            for paper in itertools.product(firsts, firsts, seconds):
                if not is_culprit(kind, "lists", ([], paper)):
                    continue
                state, one, other = lists_by(kind, ([], paper))
                self.assertTrue(is_list(kind, one, state) and is_list(kind, other, state) and one != other)
                self.assertEqual(state[0], join(kind[1], paper[0], paper[1]))
                told = differences_by(kind, ([], paper))
                self.assertTrue(all(is_state(kind, each) for each in told))
                both = [each for each in all_states(kind) if all(is_at_most(kind, each, end) for end in told[2:])]
                self.assertFalse(any(is_at_most(kind, told[0], join(kind, each, told[1])) for each in both))


class Refused(unittest.TestCase):
    def test_kinds(self):
        for value in WRONG_KINDS:
            check_refused(self, InvalidKind, {"value": value}, culprit, value, None)
            check_refused(self, InvalidKind, {"value": value}, is_culprit, value, None, None)
            check_refused(self, InvalidKind, {"value": value}, is_culprit, value=0, word="lists", kind=value)
            check_refused(self, InvalidKind, {"value": value}, lists_by, value, None)
            check_refused(self, InvalidKind, {"value": value}, differences_by, value=None, kind=value)

    def test_words(self):
        for value in WRONG_WORDS:
            for kind in (COUNT, GEM):
                check_refused(self, InvalidWord, {"value": value}, culprit, kind, value)
                check_refused(self, InvalidWord, {"value": value}, culprit, word=value, kind=kind)
                check_refused(self, InvalidWord, {"value": value}, is_culprit, kind, value, None)
                check_refused(self, InvalidWord, {"value": value}, is_culprit, value=([], (4, [1, 2], [1, 3])),
                              word=value, kind=kind)

    def test_culprits(self):
        lists, sides = ([], (4, [1, 2], [1, 3])), ([], (1, 2, 1, 3))
        for value in ODD_VALUES + [sides, ([], (4, [1, 2], [2, 1])), [[], (4, [1, 2], [1, 3])], (["first"], lists[1])]:
            check_refused(self, InvalidCulprit, {"value": value}, lists_by, GEM, value)
            check_refused(self, InvalidCulprit, {"value": value}, lists_by, value=value, kind=GEM)
        for value in ODD_VALUES + [lists, ([], (1, 2, 1, 1)), ([], (1, 2, True, 3)), ("", sides[1])]:
            check_refused(self, InvalidCulprit, {"value": value}, differences_by, GEM, value)
            check_refused(self, InvalidCulprit, {"value": value}, differences_by, value=value, kind=GEM)
        for kind in (COUNT, BAG, ("table", SQUARE), ("later", COUNT, COUNT)):
            for function in (lists_by, differences_by):
                for value in (lists, sides, ([], (0, 0, 1)), None):
                    check_refused(self, InvalidCulprit, {"value": value}, function, kind, value)


if __name__ == "__main__":
    unittest.main()
