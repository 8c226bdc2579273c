import itertools
import unittest

from partsmet.alikes import is_renaming, least_table, renaming
from partsmet.claims import contrary, is_claim, is_paper_of, is_true, paper_of, words
from partsmet.culprits import culprit, is_culprit
from partsmet.differences import difference, is_difference
from partsmet.errors import InvalidClaim, TooMany
from partsmet.grades import grade
from partsmet.joins import is_at_most
from partsmet.questions import decider, is_two_below, two_below
from partsmet.shapes import is_parting, parting
from partsmet.views import view_kind
from tests.oracle import Told, least_of
from tests.samples import (
    BAG,
    CHAIN,
    CUBE,
    DIAMOND,
    EVEN_KINDS,
    FLAG,
    FULL,
    GEMS,
    LISTS_KINDS,
    LOOSE,
    NAMES,
    NEITHER_KINDS,
    ODD_VALUES,
    PENTAGON,
    SPANS,
    SQUARE,
    STEPS,
    TWO,
    WRONG_KINDS,
    as_tuples,
    check_call,
    check_refused,
    list_marks,
    same,
)

COUNT = ("count",)
GEM = ("table", DIAMOND)
SPAN = ("table", SPANS)
NEST = ("map", NAMES)
AHEAD = ("later", BAG, FLAG)
PAIRED = ("pair", ("row", 3), FLAG)
FORKED = ("tops", 3, [(2, 0)])
WIDE = ("map", ("later", ("row", 4), ("row", 19)))
SAME, JOINED, FIRST, SECOND, UPPER = ("same",), ("joined",), ("first",), ("second",), ("upper",)
AT_A = ("at", "a")
LINES = [("even", "uneven"), ("single", "double"), ("one", "parted"), ("through", "notthrough"), ("alike", "unlike"),
         ("least", "notleast")]
WORDS = [word for line in LINES for word in line]
COUNTS = {"what": "counts", "limit": 5}
SHAPES = {"what": "shapes", "limit": 600}

# Parts of claims by the first word of their line, each with whether the claim with that word is true.
PARTS = {
    "even": [((kind,), True) for kind in EVEN_KINDS] + [((kind,), False) for kind in LISTS_KINDS + NEITHER_KINDS],
    "single": [((kind,), True) for kind in EVEN_KINDS + LISTS_KINDS] + [((kind,), False) for kind in NEITHER_KINDS],
    "one": [
        ((COUNT, SAME, SAME), True),
        ((COUNT, SAME, ("then", SAME, SAME)), True),
        ((NAMES, SAME, ("some", ["a"])), False),
        ((NAMES, ("some", ["a", "b"]), ("some", ["b", "a"])), True),
        ((NAMES, AT_A, JOINED), False),
        ((NEST, JOINED, ("values", JOINED)), False),
        ((NEST, ("then", JOINED, JOINED), ("then", ("values", JOINED), JOINED)), True),
        ((NEST, JOINED, AT_A), False),
        ((("pair", COUNT, COUNT), FIRST, SECOND), False),
        ((("pair", STEPS, ("tops", 3, [(0, 1), (0, 1)])), FIRST, SECOND), False),
        ((("map", SPAN), ("at", "b"), JOINED), False),
        ((("map", SPAN), JOINED, ("then", ("renamed", [("a", "b")]), JOINED)), True),
        ((("above", FLAG, COUNT), UPPER, ("then", SAME, UPPER)), True),
    ],
    "through": [
        ((COUNT, SAME, 3), True),
        ((NAMES, JOINED, 4), True),
        ((NAMES, AT_A, 2), True),
        ((NAMES, SAME, [("a", 1), ("b", 2)]), False),
        ((NAMES, ("both", AT_A, JOINED), (3, 2)), True),
        ((NAMES, ("both", AT_A, ("at", "b")), (1, 1)), False),
        ((NEST, JOINED, [("x", 2), ("y", 1)]), False),
        ((STEPS, SAME, [1]), True),
        ((STEPS, SAME, [1, 2]), False),
        ((("table", CUBE), SAME, 7), False),
        ((("pair", SPAN, COUNT), SECOND, 2), True),
        ((("later", COUNT, NAMES), SAME, (2, [("a", 1), ("b", 1)])), False),
    ],
    "alike": [
        ((FLAG, ("table", TWO)), True),
        ((PAIRED, FORKED), True),
        ((PAIRED, PAIRED), True),
        ((PAIRED, ("row", 4)), False),
        ((("row", 7), FULL), True),
        ((("row", 7), LOOSE), False),
        ((("row", 3), FLAG), False),
        ((("row", 1), ("map", ("row", 1))), True),
        ((("table", CUBE), ("tops", 3, ())), True),
        ((("table", CUBE), ("row", 4)), False),
    ],
    "least": [
        ((COUNT, 5, 2, 5), True),
        ((COUNT, 5, 2, 6), False),
        ((COUNT, 2, 5, 0), True),
        ((COUNT, 2, 5, 1), False),
        ((("row", 9), 2, 2, 3), False),
        ((NAMES, [("a", 5), ("b", 1)], [("a", 2)], [("a", 5), ("b", 1)]), True),
        ((NAMES, [("a", 5), ("b", 1)], [("b", 2)], [("a", 5)]), True),
        ((NAMES, [("a", 5), ("b", 1)], [("b", 2)], [("a", 5), ("b", 1)]), False),
        ((("table", SQUARE), 3, 1, 2), True),
        ((("table", SQUARE), 3, 1, 3), False),
        ((STEPS, [1, 2], [1], [2]), True),
        ((STEPS, [1, 2], [1], [0, 2]), False),
        ((("later", ("row", 3), COUNT), (1, 4), (1, 2), (1, 4)), True),
        ((("later", ("row", 3), COUNT), (1, 4), (2, 0), (0, 1)), False),
    ],
}
# Values that are no claims.
NO_CLAIMS = ODD_VALUES + WRONG_KINDS + [
    (), ("even",), ("even", COUNT, COUNT), ["even", COUNT], ("Even", COUNT), ("evenness", COUNT), (["even"], COUNT),
    (("even",), COUNT), (None, COUNT), (b"even", COUNT), ("differences", COUNT), COUNT, ("alike", COUNT), ("one", COUNT),
    ("single",), ("double", COUNT, 1), ("lists", GEM),
    ("one", NAMES, SAME), ("one", NAMES, SAME, SAME, SAME), ("one", NAMES, SAME, JOINED), ("one", GEM, SAME, SAME),
    ("parted", AHEAD, FIRST, FIRST), ("parted", NAMES, SAME, FIRST), ("one", NAMES, FIRST, SAME), ("one", NAMES, ["same"], SAME),
    ("one", NAMES, SAME, None), ("one", 1, SAME, SAME), ("one", ("pair", COUNT, FLAG), FIRST, SECOND),
    ("one", ("pair", STEPS, ("tops", 3, [])), FIRST, SECOND),
    ("through", NAMES, JOINED), ("through", NAMES, (JOINED, 4)), ("through", NAMES, JOINED, 0), ("through", NAMES, SAME, []),
    ("through", NAMES, SAME, ()), ("through", NAMES, JOINED, True), ("through", NAMES, JOINED, -1),
    ("through", NAMES, JOINED, []), ("through", NAMES, FIRST, 1), ("through", GEM, SAME, 1), ("notthrough", SPAN, SAME, 1),
    ("notthrough", AHEAD, FIRST, [("a", 1)]), ("through", ("pair", SPAN, COUNT), FIRST, 1), ("through", 1, SAME, 1),
    ("through", NAMES, JOINED, 1, 1), ("notthrough", ("above", FLAG, STEPS), UPPER, []),
    ("notthrough", ("above", FLAG, STEPS), SAME, ("low", 0)),
    ("alike", FLAG), ("alike", FLAG, FLAG, FLAG), ("alike", FLAG, 1), ("alike", 1, FLAG), ("alike", COUNT, FLAG),
    ("alike", FLAG, COUNT), ("unlike", BAG, BAG), ("unlike", GEM, GEM), ("unlike", FLAG, GEM), ("alike", SPAN, FLAG),
    ("alike", FLAG, SPAN), ("alike", ("row", 8), FLAG), ("alike", FLAG, ("row", 8)), ("unlike", ("table", CHAIN), FLAG),
    ("unlike", FLAG, ("pair", LOOSE, FLAG)), ("unlike", FLAG, None),
    ("least", COUNT, 5, 2), ("least", COUNT, 5, 2, 5, 5), ("least", COUNT, 5, 2, 4), ("least", COUNT, 5, 2, True),
    ("least", COUNT, -5, 2, 5), ("least", COUNT, 5, True, 5), ("least", COUNT, True, 0, 1), ("least", COUNT, 5, None, 5),
    ("least", COUNT, 5, 2, None), ("least", NAMES, [("a", 1)], [], []), ("least", GEM, 4, 1, 4), ("notleast", SPAN, 1, 0, 1),
    ("notleast", NAMES, [("a", 1)], [], [("a", 0)]), ("least", 1, 1, 1, 1), ("notleast", AHEAD, ([], 0), ([], 0), ([], 0)),
]


def claims():
    """All claims of the parts above and their contraries, each with whether it is true."""
    for (word, other), rows in zip(LINES, [PARTS[line[0]] for line in LINES]):
        for parts, answer in rows:
            yield (word, *parts), answer
            yield (other, *parts), not answer


def other_word(word):
    (line,) = [line for line in LINES if word in line]
    return line[1 - line.index(word)]


def expected_paper(claim):
    """A paper by the functions of the earlier stages; None where there is none."""
    word, parts = claim[0], claim[1:]
    if word == "uneven":
        return culprit(parts[0], "differences")
    if word == "double":
        return culprit(parts[0], "lists")
    if word == "parted":
        return parting(*parts)
    if word == "through":
        return decider(parts[0], parts[1:])
    if word == "notthrough":
        return two_below(parts[0], parts[1:])
    if word == "alike":
        return renaming(*parts)
    if word == "unlike":
        tables = (least_table(parts[0]), least_table(parts[1]))
        return tables if tables[0] != tables[1] else None
    if word == "notleast":
        least = difference(*parts[:3])
        return least if least != parts[3] else None
    return None


def judged(claim, value):
    """Whether the value is a paper of the claim, by the functions of the earlier stages."""
    word, parts = claim[0], claim[1:]
    if word in ("uneven", "double"):
        return is_culprit(parts[0], "differences" if word == "uneven" else "lists", value)
    if word == "parted":
        return is_parting(*parts, value)
    if word == "through":
        return type(value) is int and decider(parts[0], parts[1:]) == value
    if word == "notthrough":
        return is_two_below(parts[0], parts[1:], value)
    if word == "alike":
        return is_renaming(*parts, value)
    if word == "unlike":
        found = expected_paper(claim)
        return found is not None and isinstance(value, tuple) and same(as_tuples(value), as_tuples(found))
    if word == "notleast":
        return is_difference(*parts[:3], value) and not is_at_most(parts[0], parts[3], value)
    return False


class Claims(unittest.TestCase):
    def test_words(self):
        check_call(self, LINES, words)
        words().append(("more", "less"))
        check_call(self, LINES, words)

    def test_told(self):
        found = {word: set() for word in WORDS}
        for claim, answer in claims():
            for passed in (claim, (claim[0], *as_tuples(claim[1:]))):
                check_call(self, True, is_claim, value=passed)
                check_call(self, answer, is_true, claim=passed)
            found[claim[0]].add(answer)
        self.assertTrue(all(answers == {True, False} for answers in found.values()))

    def test_contraries(self):
        for claim, answer in claims():
            for passed in (claim, (claim[0], *as_tuples(claim[1:]))):
                other = (other_word(claim[0]), *passed[1:])
                check_call(self, other, contrary, claim=passed)
                self.assertTrue(same(contrary(contrary(passed)), passed))
                self.assertIs(is_true(contrary(passed)), not answer)
        # Just as they were passed: ties in their sequence, tuples as tuples.
        check_call(self, ("uneven", ("tops", 3, ((1, 2), (0, 1), (1, 2)))), contrary,
                   claim=("even", ("tops", 3, ((1, 2), (0, 1), (1, 2)))))
        check_call(self, ("least", NAMES, (("a", 1),), [], [("a", 2)]), contrary,
                   claim=("notleast", NAMES, (("a", 1),), [], [("a", 2)]))

    def test_any_values(self):
        for value in NO_CLAIMS:
            check_call(self, False, is_claim, value=value)
            for function in (is_true, contrary, paper_of):
                check_refused(self, InvalidClaim, {"value": value}, function, value)
                check_refused(self, InvalidClaim, {"value": value}, function, claim=value)
            check_refused(self, InvalidClaim, {"value": value}, is_paper_of, value, None)
            check_refused(self, InvalidClaim, {"value": value}, is_paper_of, value=0, claim=value)

    def test_wrong_kinds(self):
        for kind in WRONG_KINDS:
            for claim in [("even", kind), ("one", kind, SAME, SAME), ("through", kind, SAME, 1), ("alike", kind, FLAG),
                          ("alike", FLAG, kind), ("least", kind, 0, 0, 0)]:
                check_call(self, False, is_claim, value=claim)

    def test_six_parts_and_seven(self):
        for kind, answer in [(("row", 7), True), (LOOSE, True), (FULL, True), (("row", 8), False), (("pair", LOOSE, FLAG), False),
                             (("table", CHAIN), False), (("row", 20), False), (("table", GEMS), False)]:
            for word in ("alike", "unlike"):
                check_call(self, answer, is_claim, value=(word, kind, FLAG))
                check_call(self, answer, is_claim, value=(word, FLAG, kind))


class Papers(unittest.TestCase):
    def test_papers(self):
        """A word with papers has one exactly if its claim is true; no value is a paper of both."""
        for claim, answer in claims():
            found = paper_of(claim)
            with_paper = claim[0] not in ("even", "single", "one", "least")
            self.assertEqual(found is not None, answer and with_paper, claim)
            for passed in (claim, (claim[0], *as_tuples(claim[1:]))):
                check_call(self, found, paper_of, claim=passed)
                check_call(self, found is not None, is_paper_of, claim=passed, value=found)
                check_call(self, False, is_paper_of, claim=contrary(passed), value=found)
            if isinstance(found, (tuple, list)):
                loose = tuple(found) if isinstance(found, list) else tuple(as_tuples(part) for part in found)
                self.assertIs(is_paper_of(claim, loose), True)

    def test_by_earlier_functions(self):
        values = [expected_paper(claim) for claim, _ in claims()]
        values = [value for value in values if value is not None] + ODD_VALUES
        for claim, answer in claims():
            for value in values[::3] + [expected_paper(claim)]:
                if value is not None:
                    self.assertIs(is_paper_of(claim, value), judged(claim, value), (claim, value))

    def test_told(self):
        rows = [
            (("uneven", GEM), ([], (1, 2, 1, 3)), True),
            (("uneven", GEM), ([], (1, 2, 1, 1)), False),
            (("uneven", GEM), ([], (4, [1, 2], [1, 3])), False),
            (("uneven", AHEAD), ((), ((("a", 1),), (("b", 1),), 1)), True),
            (("uneven", AHEAD), ([], ([("a", 1)], [("b", 1)], 0)), False),
            (("uneven", ("map", ("table", PENTAGON))), (["inner"], (2, 3, 2, 1)), False),
            (("uneven", COUNT), ([], (1, 2, 1, 3)), False),
            (("double", GEM), ([], (4, [1, 2], (2, 3))), True),
            (("double", GEM), ([], (4, [1, 2], [2, 1])), False),
            (("double", GEM), ([], (1, 2, 1, 3)), False),
            (("double", AHEAD), ([], ([("a", 1)], [("b", 1)], 1)), True),
            (("double", SPAN), ([], (6, [1, 2, 3], [1, 3])), False),
            (("parted", NAMES, SAME, ("some", ["a"])), [("b", 1)], True),
            (("parted", NAMES, SAME, ("some", ["a"])), (("zz", 77),), True),
            (("parted", NAMES, SAME, ("some", ["a"])), [("a", 1)], False),
            (("parted", NAMES, SAME, ("some", ["a"])), [("b", 1), ("c", 1)], False),
            (("parted", NAMES, SAME, SAME), [("a", 1)], False),
            (("through", NAMES, JOINED, 4), 0, True),
            (("through", NAMES, JOINED, 4), False, False),
            (("through", NAMES, JOINED, 4), 1, False),
            (("through", NAMES, ("both", AT_A, JOINED), (3, 2)), 1, True),
            (("through", NAMES, ("both", AT_A, JOINED), (3, 2)), True, False),
            (("through", NAMES, ("both", AT_A, JOINED), (3, 2)), 0, False),
            (("through", STEPS, SAME, [1, 2]), 0, False),
            (("through", STEPS, SAME, [1, 2]), None, False),
            (("notthrough", STEPS, SAME, [1, 2]), ([1], [2]), True),
            (("notthrough", STEPS, SAME, [1, 2]), ((2,), (1,)), True),
            (("notthrough", STEPS, SAME, [1, 2]), ([0, 2], [1]), True),
            (("notthrough", STEPS, SAME, [1, 2]), [[1], [2]], False),
            (("notthrough", STEPS, SAME, [1, 2]), ([0], [2]), False),
            (("notthrough", STEPS, SAME, [1]), ([0], [2]), False),
            (("alike", PAIRED, FORKED), [1, 2, 0], True),
            (("alike", PAIRED, FORKED), (1, 2, 0), True),
            (("alike", PAIRED, FORKED), [1, 0, 2], False),
            (("alike", ("row", 1), ("row", 1)), [], True),
            (("alike", PAIRED, ("row", 4)), [0, 1, 2], False),
            (("unlike", ("row", 3), ("tops", 2, [])), ([[0, 0], [1, 0]], [[0, 0], [0, 0]]), True),
            (("unlike", ("row", 3), ("tops", 2, [])), (((0, 0), [1, 0]), ([0, 0], (0, 0))), True),
            (("unlike", ("row", 3), ("tops", 2, [])), [[[0, 0], [1, 0]], [[0, 0], [0, 0]]], False),
            (("unlike", ("row", 3), ("tops", 2, [])), ([[0, 0], [0, 0]], [[0, 0], [1, 0]]), False),
            (("unlike", ("row", 3), ("tops", 2, [])), ([[0, 1], [0, 0]], [[0, 0], [0, 0]]), False),
            (("unlike", ("row", 3), ("tops", 2, [])), ([[0, 0], [True, 0]], [[0, 0], [0, 0]]), False),
            (("unlike", ("row", 3), ("tops", 2, [])), ([[False, 0], [1, 0]], [[0, 0], [0, 0]]), False),
            (("unlike", ("row", 3), ("tops", 2, [])), ([[0, 0], [1, 0]],), False),
            (("unlike", ("row", 3), ("tops", 2, [])), ([[0, 0], [1, 0]], [[0, 0], [0, 0]], []), False),
            (("unlike", ("row", 3), ("tops", 2, [])), ([[0, 0], [1, 0], []], [[0, 0], [0, 0]]), False),
            (("unlike", ("row", 3), ("tops", 2, [])), ([[0, 0], [1, 0, 0]], [[0, 0], [0, 0]]), False),
            (("unlike", ("row", 3), ("tops", 2, [])), ([[0, 0], None], [[0, 0], [0, 0]]), False),
            (("unlike", ("row", 3), ("tops", 2, [])), (None, [[0, 0], [0, 0]]), False),
            (("unlike", ("row", 1), FLAG), ([], [[0]]), True),
            (("unlike", ("row", 1), FLAG), ((), ((0,),)), True),
            (("unlike", FLAG, FLAG), ([[0]], [[0]]), False),
            (("unlike", FLAG, ("table", TWO)), ([[0]], [[0]]), False),
            (("notleast", ("row", 9), 2, 2, 3), 0, True),
            (("notleast", ("row", 9), 2, 2, 3), 2, True),
            (("notleast", ("row", 9), 2, 2, 3), 3, False),
            (("notleast", ("row", 9), 2, 2, 3), False, False),
            (("notleast", ("row", 9), 2, 2, 3), 9, False),
            (("notleast", COUNT, 5, 2, 6), 5, True),
            (("notleast", COUNT, 5, 2, 6), 4, False),
            (("notleast", COUNT, 5, 2, 5), 5, False),
            (("notleast", STEPS, [1, 2], [1], [0, 2]), (2,), True),
            (("notleast", STEPS, [1, 2], [1], [0, 2]), [1, 2], False),
            (("even", COUNT), None, False),
            (("even", COUNT), "differences", False),
            (("single", COUNT), None, False),
            (("one", COUNT, SAME, SAME), None, False),
            (("one", NAMES, SAME, ("some", ["a"])), [("b", 1)], False),
            (("least", COUNT, 5, 2, 5), 5, False),
            (("least", COUNT, 5, 2, 6), 5, False),
            (("single", GEM), ([], (4, [1, 2], [2, 3])), False),
            (("even", GEM), ([], (1, 2, 1, 3)), False),
        ]
        for claim, value, answer in rows:
            check_call(self, answer, is_paper_of, claim=claim, value=value)

    def test_any_values(self):
        for claim, answer in claims():
            for value in ODD_VALUES:
                # A paper that is no list or tuple may be one of these, as 10**29 is a difference of counts.
                answer = is_paper_of(claim, value)
                self.assertIs(type(answer), bool)
                self.assertIs(answer, judged(claim, value), (claim, value))

    def test_new_each_time(self):
        for claim, _ in claims():
            one, other = paper_of(claim), paper_of(claim)
            self.assertTrue(same(one, other))
            self.assertFalse(set(list_marks(one)) & set(list_marks(other) + list_marks(claim)))


class Limits(unittest.TestCase):
    def test_counts(self):
        for parts in [(COUNT, SAME, 6), (NAMES, JOINED, 6), (NAMES, SAME, [("a", 1), ("b", 9)])]:
            for word in ("through", "notthrough"):
                claim = (word, *parts)
                check_call(self, True, is_claim, value=claim)
                check_call(self, (other_word(word), *parts), contrary, claim=claim)
                check_refused(self, TooMany, COUNTS, is_true, claim)
                check_refused(self, TooMany, COUNTS, paper_of, claim=claim)
            for value in (0, None, [], ([("a", 1)], [("b", 9)])):
                check_refused(self, TooMany, COUNTS, is_paper_of, ("through", *parts), value)
        check_call(self, True, is_paper_of, claim=("notthrough", NAMES, SAME, [("a", 1), ("b", 9)]),
                   value=([("a", 1)], [("b", 9)]))
        check_call(self, False, is_paper_of, claim=("notthrough", COUNT, SAME, 6), value=(1, 2))

    def test_shapes(self):
        eight = [(name, (1, 1)) for name in "abcdefgh"]
        for word in ("through", "notthrough"):
            claim = (word, WIDE, SAME, eight)
            check_call(self, True, is_claim, value=claim)
            check_refused(self, TooMany, SHAPES, is_true, claim)
            check_refused(self, TooMany, SHAPES, paper_of, claim)
        check_refused(self, TooMany, SHAPES, is_paper_of, ("through", WIDE, SAME, eight), 0)
        check_call(self, True, is_paper_of, claim=("notthrough", WIDE, SAME, eight), value=(eight[:4], eight[4:]))
        views = (("some", list("abcdef")), ("some", list("ghijkl")))
        for word in ("one", "parted"):
            check_call(self, True, is_claim, value=(word, WIDE, *views))
            check_refused(self, TooMany, SHAPES, is_true, (word, WIDE, *views))
        check_refused(self, TooMany, SHAPES, paper_of, ("parted", WIDE, *views))
        # Without papers there is nothing to look for.
        check_call(self, None, paper_of, claim=("one", WIDE, *views))
        check_call(self, False, is_paper_of, claim=("one", WIDE, *views), value=[("a", (1, 1))])
        check_call(self, True, is_paper_of, claim=("parted", WIDE, *views), value=[("a", (1, 1))])
        check_call(self, False, is_paper_of, claim=("parted", WIDE, *views), value=[("z", (1, 1))])
        check_call(self, ("parted", WIDE, *views), contrary, claim=("one", WIDE, *views))


class Facts(unittest.TestCase):
    def test_least_ones_by_all_states(self):
        for kind in (("table", SQUARE), STEPS, ("pair", FLAG, ("row", 3)), ("later", FLAG, ("tops", 2, [])), ("above", FLAG, FLAG)):
            told = Told(kind)
            many = range(len(told.states))
            for one, other, d in itertools.product(many, repeat=3):
                parts = (kind, told.states[one], told.states[other], told.states[d])
                found = told.differences(one, other)
                self.assertIs(is_claim(("least", *parts)), d in found)
                if d in found:
                    self.assertIs(is_true(("least", *parts)), told.least_difference(one, other) == d)
                    papers = [each for each in many if is_paper_of(("notleast", *parts), told.states[each])]
                    self.assertEqual(papers, [each for each in found if not told.order[d][each]])

    def test_grades(self):
        for kind in EVEN_KINDS + LISTS_KINDS + NEITHER_KINDS:
            self.assertIs(is_true(("even", kind)), grade(kind) == "differences")
            self.assertIs(is_true(("double", kind)), grade(kind) == "neither")
            self.assertEqual(is_claim(("one", kind, SAME, SAME)), grade(kind) != "neither")
            self.assertEqual(is_claim(("least", kind, *[least_of(kind)] * 3)), grade(kind) == "differences")
            self.assertEqual(view_kind(kind, SAME), kind)


if __name__ == "__main__":
    unittest.main()
