import itertools
import unittest

from partsmet.errors import InvalidKind, InvalidMany, InvalidNames, InvalidView, NotSingle, TooMany, UnlikeKinds
from partsmet.grades import grade
from partsmet.joins import join
from partsmet.parts import is_part
from partsmet.shapes import are_one, is_parting, parting, shapes
from partsmet.views import view_kind, worth
from tests.oracle import Told, bounded_states
from tests.samples import (
    BAG,
    CUBE,
    DIAMOND,
    EVEN_KINDS,
    FINITE_KINDS,
    FLAG,
    FORK,
    LISTS_KINDS,
    LOOSE,
    NAMES,
    NEITHER_KINDS,
    ODD_VALUES,
    ONE_STATE,
    SPANS,
    SQUARE,
    STEPS,
    WRONG_KINDS,
    as_tuples,
    check_call,
    check_refused,
)

COUNT = ("count",)
NEST = ("map", NAMES)
ABOVE = ("above", FLAG, COUNT)
OPEN = ("map", ("pair", NAMES, ("above", COUNT, STEPS)))
SAME, JOINED, FIRST, SECOND, UPPER = ("same",), ("joined",), ("first",), ("second",), ("upper",)
OF_VIEWS = [are_one, parting]
# With so many names each name brings 75 shapes: 4 * 18 behind a first side, and 3 of the first side.
WIDE = ("map", ("later", ("row", 4), ("row", 19)))
# 20 * 19 parts behind a first side, and 19 of the first side.
LONG = ("later", ("row", 20), ("row", 20))
WRONG_NAMES = [value for value in ODD_VALUES if value not in (["count"], ["a", "b"], ("low",))] + [
    "ab",
    ["b", "a"],
    ["a", "a"],
    ["A"],
    ["a", "B"],
    [""],
    ["abcdefghi"],
    ["a1"],
    ["a", 1],
    [b"a"],
    [["a"]],
    list("abcdefghi"),
    tuple("abcdefghi"),
    {"a": 1},
    {"a"},
    0,
]
WRONG_MANY = ODD_VALUES + [0, 7, [1], "1", (1,)]

# Views of one kind; those in one row are the same, all others are not.
SAME_VIEWS = [
    (COUNT, [[SAME, ("then", SAME, SAME), ("then", ("both", SAME, SAME), FIRST)]]),
    (NAMES, [
        [SAME, ("values", SAME), ("renamed", []), ("renamed", [("a", "a")]),
         ("then", ("renamed", [("a", "b"), ("b", "a")]), ("renamed", [("a", "b"), ("b", "a")]))],
        [("some", ["a", "b"]), ("some", ["b", "a"]), ("then", ("some", ["a", "b", "c"]), ("some", ["d", "a", "b"]))],
        [("some", []), ("then", ("some", ["a"]), ("some", ["b"]))],
        [("some", ["a"]), ("then", SAME, ("some", ["a"])), ("then", ("renamed", [("b", "c")]), ("some", ["a"]))],
        [("some", ["b"])],
        [("renamed", [("a", "b")]), ("then", ("renamed", [("a", "b")]), ("renamed", [("a", "c")]))],
        [("renamed", [("b", "a")]), ("then", ("renamed", [("a", "b")]), ("renamed", [("b", "a")]))],
        [("renamed", [("a", "b"), ("b", "a")])],
    ]),
    (NAMES, [
        [JOINED, ("then", ("renamed", [("a", "b")]), JOINED), ("then", ("both", JOINED, ("at", "c")), FIRST)],
        [("at", "a"), ("then", ("some", ["a"]), JOINED), ("then", ("renamed", [("a", "b"), ("b", "a")]), ("at", "b"))],
        [("at", "b"), ("then", ("some", ["b", "c"]), ("at", "b"))],
        [("then", ("some", ["a", "b"]), JOINED), ("then", ("renamed", [("b", "a")]), ("at", "a"))],
    ]),
    (NEST, [
        [JOINED, ("then", ("renamed", [("a", "b")]), JOINED)],
        [("values", JOINED), ("values", ("then", ("renamed", [("x", "y")]), JOINED))],
        [("at", "a")],
        [("then", JOINED, ("some", ["a"])), ("then", ("values", ("some", ["a"])), JOINED)],
        [("then", ("some", ["a"]), ("values", JOINED)), ("then", ("values", JOINED), ("some", ["a"]))],
    ]),
    (NEST, [
        [("then", JOINED, JOINED), ("then", ("values", JOINED), JOINED)],
        [("then", ("at", "a"), JOINED), ("then", ("values", JOINED), ("at", "a"))],
        [("then", JOINED, ("at", "a")), ("then", ("values", ("at", "a")), JOINED)],
        [("then", ("at", "a"), ("at", "a"))],
    ]),
    (OPEN, [
        [("then", ("values", FIRST), ("values", JOINED)), ("values", ("then", FIRST, JOINED))],
        [("values", ("then", FIRST, ("at", "a")))],
        [("then", ("some", ["a"]), ("values", ("then", FIRST, JOINED)))],
    ]),
    (("later", ("later", COUNT, FLAG), BAG), [[("then", FIRST, FIRST),
                                               ("then", ("then", SAME, FIRST), ("then", FIRST, SAME))]]),
    (("pair", ("above", COUNT, ("row", 3)), ("above", STEPS, ("row", 3))), [
        [("then", FIRST, UPPER), ("then", ("both", SECOND, FIRST), ("then", SECOND, UPPER))],
        [("then", SECOND, UPPER)],
    ]),
    (("pair", ("table", SPANS), ("table", SPANS)), [[FIRST, ("then", ("both", SECOND, FIRST), SECOND)], [SECOND]]),
]


class Shapes(unittest.TestCase):
    def test_each_word(self):
        answers = [
            (COUNT, [], 3, [1, 2, 3]),
            (COUNT, ["a"], 1, [1]),
            (("row", 4), [], 1, [1, 2, 3]),
            (STEPS, ["a"], 2, [[0], [1], [2]]),
            (("table", SQUARE), [], 1, [1, 2]),
            (("table", CUBE), [], 1, [1, 2, 4]),
            (("table", SPANS), [], 1, [1, 2, 3]),
            (NAMES, [], 6, []),
            (NAMES, ["a", "b"], 2, [[("a", 1)], [("a", 2)], [("b", 1)], [("b", 2)]]),
            (NEST, ["a", "b"], 1, [[("a", [("a", 1)])], [("a", [("b", 1)])], [("b", [("a", 1)])], [("b", [("b", 1)])]]),
            (("pair", FLAG, NAMES), ["z"], 2, [(0, [("z", 1)]), (0, [("z", 2)]), (1, [])]),
            (("later", COUNT, FLAG), [], 1, [(0, 1), (1, 0), (1, 1)]),
            (("later", COUNT, COUNT), [], 2, [(0, 1), (0, 2), (1, 0), (1, 1), (1, 2), (2, 0), (2, 1), (2, 2)]),
            (("later", BAG, ("row", 1)), ["a", "b"], 1, [([("a", 1)], 0), ([("b", 1)], 0)]),
            (("later", COUNT, BAG), [], 2, [(1, []), (2, [])]),
            (("later", ("pair", ("row", 1), COUNT), BAG), ["a"], 1,
             [((0, 0), [("a", 1)]), ((0, 1), []), ((0, 1), [("a", 1)])]),
            (("later", ("later", COUNT, FLAG), FLAG), [], 1,
             [((0, 0), 1), ((0, 1), 0), ((0, 1), 1), ((1, 0), 0), ((1, 0), 1), ((1, 1), 0), ((1, 1), 1)]),
            (("later", ("above", COUNT, FLAG), FLAG), [], 1,
             [(("high", 0), 0), (("high", 0), 1), (("high", 1), 0), (("high", 1), 1), (("low", 0), 1),
              (("low", 1), 0), (("low", 1), 1)]),
            (("later", ("tops", 2, [(1, 0)]), FLAG), [], 1, [([], 1), ([0], 0), ([0], 1), ([1], 0), ([1], 1)]),
            (("later", ("map", ("row", 1)), FLAG), ["a"], 1, [([], 1)]),
            (ABOVE, [], 2, [("high", 0), ("high", 1), ("high", 2), ("low", 1)]),
            (("above", NAMES, STEPS), ["q"], 1, [("high", []), ("high", [0]), ("high", [1]), ("high", [2]),
                                                 ("low", [("q", 1)])]),
        ]
        for kind, names, many, answer in answers:
            check_call(self, answer, shapes, kind=kind, names=names, many=many)
            check_call(self, answer, shapes, kind=as_tuples(kind), names=tuple(names), many=many)

    def test_parts_of_bounded_states(self):
        """The shapes are just those parts in which no other names and no greater counts stand."""
        for kind in EVEN_KINDS + LISTS_KINDS:
            for names, many in [([], 1), (["a"], 2), (["a", "bb"], 1), (["c", "d", "e"], 2), ([], 6)]:
                found = sorted(each for each in bounded_states(kind, names, many) if is_part(kind, each))
                if len(found) <= 600:
                    check_call(self, found, shapes, kind=kind, names=names, many=many)
                else:
                    check_refused(self, TooMany, {"what": "shapes", "limit": 600}, shapes, kind, names, many)

    def test_finite_kinds(self):
        for kind in FINITE_KINDS:
            if grade(kind) != "neither":
                told = Told(kind)
                for names, many in [([], 1), (["a", "b"], 3)]:
                    check_call(self, [told.states[part] for part in told.parts], shapes, kind=kind, names=names,
                               many=many)
        for kind in ONE_STATE:
            check_call(self, [], shapes, kind=kind, names=list("abcdefgh"), many=6)

    def test_eight_names_six_counts(self):
        names = list("abcdefgh")
        check_call(self, [[(name, number)] for name in names for number in range(1, 7)], shapes, kind=NAMES,
                   names=names, many=6)

    def test_six_hundred(self):
        names = list("abcdefgh")
        self.assertEqual(len(shapes(WIDE, names, 1)), 600)
        self.assertEqual(len(shapes(("pair", WIDE, FLAG), names[:7], 6)), 526)
        self.assertEqual(len(shapes(("above", LONG, ("pair", ("later", ("row", 20), ("row", 10)), FLAG)), [], 1)), 600)
        many = {"what": "shapes", "limit": 600}
        check_refused(self, TooMany, many, shapes, ("above", LONG,
                                                    ("pair", ("later", ("row", 20), ("row", 10)), ("row", 3))), [], 1)
        check_refused(self, TooMany, many, shapes, ("pair", WIDE, FLAG), names, 1)
        check_refused(self, TooMany, many, shapes, ("above", WIDE, ("row", 1)), names, 1)
        check_refused(self, TooMany, many, shapes, ("map", WIDE), names[:3], 1)
        check_refused(self, TooMany, many, shapes, many=6, names=names,
                      kind=("map", ("later", COUNT, ("later", COUNT, COUNT))))
        # Far more than could be gone through.
        deep = ("later", ("later", ("row", 20), ("row", 20)), ("later", ("row", 20), ("row", 20)))
        check_refused(self, TooMany, many, shapes, deep, [], 1)

    def test_refused(self):
        for value in WRONG_KINDS:
            check_refused(self, InvalidKind, {"value": value}, shapes, value, None, None)
            check_refused(self, InvalidKind, {"value": value}, shapes, many=1, names=[], kind=value)
        for kind in (NAMES, ("table", DIAMOND)):
            for value in WRONG_NAMES:
                check_refused(self, InvalidNames, {"value": value}, shapes, kind, value, None)
                check_refused(self, InvalidNames, {"value": value}, shapes, many=1, names=value, kind=kind)
            for value in WRONG_MANY:
                check_refused(self, InvalidMany, {"value": value}, shapes, kind, ["a", "b"], value)
                check_refused(self, InvalidMany, {"value": value}, shapes, many=value, names=(), kind=kind)
        for kind in NEITHER_KINDS + [("pair", ("table", DIAMOND), ("later", ("row", 20), WIDE[1]))]:
            check_refused(self, NotSingle, {}, shapes, kind, list("abcdefgh"), 6)
            check_refused(self, NotSingle, {}, shapes, many=1, names=[], kind=kind)


class Views(unittest.TestCase):
    def check_pair(self, kind, one, other, answer):
        for passed in ((kind, one, other), (as_tuples(kind), as_tuples(one), as_tuples(other))):
            check_call(self, answer, are_one, kind=passed[0], view=passed[1], other=passed[2])
        found = parting(kind, one, other)
        check_call(self, found, parting, kind=kind, view=one, other=other)
        self.assertEqual(parting(as_tuples(kind), as_tuples(one), as_tuples(other)) is None, answer)
        self.assertEqual(found is None, answer, (kind, one, other))
        if found is not None:
            check_call(self, True, is_parting, kind=kind, view=one, other=other, value=found)
            check_call(self, True, is_parting, kind=kind, view=other, other=one, value=as_tuples(found))
            self.assertTrue(is_part(kind, found))
            self.assertNotEqual(worth(kind, one, found), worth(kind, other, found))

    def test_same_and_unlike(self):
        for kind, rows in SAME_VIEWS:
            places = [(at, view) for at, row in enumerate(rows) for view in row]
            for (at, one), (place, other) in itertools.product(places, repeat=2):
                self.check_pair(kind, one, other, at == place)

    def test_by_many_parts(self):
        """The same for all parts with more names and greater counts, and for joins of them."""
        for kind, rows in SAME_VIEWS:
            views = [view for row in rows for view in row]
            parts = [each for each in bounded_states(kind, ["a", "b", "c", "d", "q", "r"], 3) if is_part(kind, each)]
            parts = parts + [join(kind, one, other) for one, other in zip(parts[::3], parts[5:])]
            worths = [[worth(kind, view, each) for each in parts] for view in views]
            for one, other in itertools.product(range(len(views)), repeat=2):
                self.assertIs(are_one(kind, views[one], views[other]), worths[one] == worths[other])

    def test_two_further_names(self):
        """One further name would not do where two maps stand in one another."""
        found = parting(NEST, JOINED, ("values", JOINED))
        ((outer, inner),) = found
        self.assertNotEqual(outer, inner[0][0])
        three = ("map", NEST)
        flat = ("then", JOINED, ("then", JOINED, SAME))
        for other in [("then", ("values", JOINED), JOINED), ("values", ("then", JOINED, JOINED)),
                      ("then", ("values", ("values", JOINED)), JOINED), ("then", JOINED, ("values", JOINED))]:
            self.check_pair(three, flat, other, other == ("then", ("values", JOINED), JOINED))

    def test_maps_within_other_kinds(self):
        """A map brings a further name wherever it stands; beside one another two of them bring just one."""
        some = ("some", ["a"])
        for kind, way in [(("pair", NAMES, COUNT), FIRST), (("pair", COUNT, NAMES), SECOND),
                          (("pair", NAMES, NEST), FIRST),
                          (("later", NAMES, ("row", 1)), FIRST), (("above", COUNT, NAMES), UPPER)]:
            self.check_pair(kind, way, ("then", way, some), False)
            self.check_pair(kind, ("then", way, some), ("then", way, ("some", ["a"])), True)
        many = {"what": "shapes", "limit": 600}
        # With one name 659, 619 and 619 shapes; with none of them far fewer.
        for kind in [("later", COUNT, ("map", ("later", ("row", 20), ("row", 11)))),
                     ("above", ("map", LONG), ("later", ("row", 20), ("row", 11))),
                     ("above", ("later", ("row", 20), ("row", 11)), ("map", LONG))]:
            check_refused(self, TooMany, many, are_one, kind, SAME, SAME)
        ten = ("map", ("later", ("row", 20), ("row", 10)))
        check_call(self, True, are_one, kind=("pair", ten, ten), view=SAME, other=SAME)

    def test_counts_to_two(self):
        """Behind a count to 2 there are thrice the shapes of the second side, and two: 599 and 602 of them."""
        later = ("later", ("row", 20), ("row", 10))
        check_call(self, True, are_one, kind=("later", COUNT, later), view=SAME, other=SAME)
        many = {"what": "shapes", "limit": 600}
        check_refused(self, TooMany, many, are_one, ("later", COUNT, ("pair", later, FLAG)), SAME, SAME)

    def test_names_taken(self):
        """Further names are none of those that stand in the views."""
        taken = ["a", "b", "aa", "ab", "ac", "z"]
        for view in [("some", taken), ("renamed", [(name, name + "x") for name in taken])]:
            self.check_pair(BAG, view, SAME, False)
        pairs = [(name, "z") for name in taken]
        self.check_pair(BAG, ("some", taken), ("then", ("some", taken), ("some", taken[::-1])), True)
        self.check_pair(BAG, ("renamed", pairs), ("then", ("renamed", pairs), ("renamed", [("a", "b")])), True)
        self.check_pair(BAG, ("then", ("renamed", pairs), JOINED), JOINED, True)

    def test_single_kinds(self):
        for kind in ONE_STATE:
            self.check_pair(kind, SAME, ("then", SAME, SAME), True)
        kind = ("map", ("row", 1))
        self.check_pair(kind, SAME, ("some", []), True)
        self.check_pair(kind, ("at", "a"), JOINED, True)
        self.check_pair(("pair", kind, COUNT), ("then", FIRST, ("some", ["a"])), FIRST, True)


class Judged(unittest.TestCase):
    def test_parts_that_are_no_shapes(self):
        named = {"kind": NEST, "view": JOINED, "other": ("values", JOINED)}
        for value in [[("a", [("b", 1)])], [("long", [("names", 9)])], (("z", (("y", 100),)),),
                      [("b", [("a", 999999)])]]:
            check_call(self, True, is_parting, **named, value=value)
        for value in [
            [("a", [("a", 1)])], [("z", [("z", 7)])], [], [("a", [("b", 1), ("c", 1)])],
            [("a", [("b", 1)]), ("b", [("a", 1)])], [("a", [("b", 0)])], [("a", [("b", True)])], [["a", [("b", 1)]]],
            [("a", [])], ("a", [("b", 1)]),
        ] + ODD_VALUES:
            check_call(self, False, is_parting, **named, value=value)

    def test_by_worths(self):
        for kind, rows in SAME_VIEWS:
            views = [row[0] for row in rows] + [rows[0][-1]]
            states = bounded_states(kind, ["a", "b", "x"], 3)[:150]
            states += [join(kind, one, other) for one, other in zip(states, states[7:])][:40]
            for one, other in itertools.combinations(views, 2):
                for value in states:
                    answer = is_part(kind, value) and worth(kind, one, value) != worth(kind, other, value)
                    self.assertIs(is_parting(kind, one, other, value), answer)


class Refused(unittest.TestCase):
    def test_kinds(self):
        for value in WRONG_KINDS:
            for function in OF_VIEWS:
                check_refused(self, InvalidKind, {"value": value}, function, value, None, None)
                check_refused(self, InvalidKind, {"value": value}, function, other=SAME, view=SAME, kind=value)
            check_refused(self, InvalidKind, {"value": value}, is_parting, value, None, None, None)
            check_refused(self, InvalidKind, {"value": value}, is_parting, value=0, other=SAME, view=SAME, kind=value)

    def test_views(self):
        """Views ahead of all else: of no kind here, and of no two views, the call would go well."""
        wrong = ODD_VALUES + [["same"], ("at", "A"), ("some", ["a", "a"]), FIRST, UPPER, ("then", JOINED, JOINED),
                              "same", ()]
        for kind in (NAMES, ("map", ("table", DIAMOND))):
            for value in wrong:
                for function in OF_VIEWS:
                    check_refused(self, InvalidView, {"value": value}, function, kind, value, None)
                    check_refused(self, InvalidView, {"value": value}, function, kind, JOINED, value)
                    check_refused(self, InvalidView, {"value": value}, function, other=value, view=SAME, kind=kind)
                check_refused(self, InvalidView, {"value": value}, is_parting, kind, value, None, None)
                check_refused(self, InvalidView, {"value": value}, is_parting, kind, JOINED, value, None)
                check_refused(self, InvalidView, {"value": value}, is_parting, value=[], other=value, view=SAME,
                              kind=kind)

    def test_not_single(self):
        """Ahead of unlike kinds, and of too many shapes."""
        for kind in NEITHER_KINDS:
            views = [(SAME, SAME)]
            views += [(SAME, JOINED)] if kind[0] == "map" else []
            views += [(SAME, FIRST), (FIRST, ("then", FIRST, SAME))] if kind[0] in ("pair", "later") else []
            for one, other in views:
                for function in OF_VIEWS:
                    check_refused(self, NotSingle, {}, function, kind, one, other)
                    check_refused(self, NotSingle, {}, function, other=one, view=other, kind=kind)
                check_refused(self, NotSingle, {}, is_parting, kind, one, other, None)
        wide = ("pair", ("table", DIAMOND), WIDE)
        check_refused(self, NotSingle, {}, are_one, wide, SECOND, ("then", SECOND, ("some", list("abcdef"))))

    def test_unlike_kinds(self):
        rows = [
            (NAMES, SAME, JOINED),
            (NEST, JOINED, SAME),
            (("pair", STEPS, FORK), FIRST, SECOND),
            (("pair", ("row", 3), ("row", 4)), FIRST, SECOND),
            (("pair", LOOSE, ("tops", 5, [])), FIRST, SECOND),
            (("map", WIDE), JOINED, SAME),
        ]
        for kind, one, other in rows:
            for function in OF_VIEWS:
                check_refused(self, UnlikeKinds, {}, function, kind, one, other)
                check_refused(self, UnlikeKinds, {}, function, other=one, view=other, kind=kind)
            for value in (None, [], []):
                check_refused(self, UnlikeKinds, {}, is_parting, kind, one, other, value)

    def test_kinds_told_alike(self):
        kind = ("pair", ("tops", 3, ((1, 2), (0, 1), (1, 2))), ("tops", 3, [(0, 1), (1, 2)]))
        self.assertEqual(view_kind(kind, FIRST), view_kind(kind, SECOND))
        check_call(self, False, are_one, kind=kind, view=FIRST, other=SECOND)

    def test_too_many(self):
        """Seven names and a further one bring 600 shapes of this kind, eight and a further one more."""
        six = ("some", list("abcdef"))
        check_call(self, False, are_one, kind=WIDE, view=six, other=("some", ["g", "a"]))
        many = {"what": "shapes", "limit": 600}
        rows = [(("some", ["g", "h"]), "a"), (("renamed", [("g", "h")]), "g"),
                (("then", ("some", ["g"]), ("some", ["h"])), "a")]
        for other, name in rows:
            for function in OF_VIEWS:
                check_refused(self, TooMany, many, function, WIDE, six, other)
                check_refused(self, TooMany, many, function, other=six, view=other, kind=WIDE)
            check_call(self, False, is_parting, kind=WIDE, view=six, other=other, value=None)
            check_call(self, True, is_parting, kind=WIDE, view=six, other=other, value=[(name, (1, 0))])
        check_refused(self, TooMany, many, are_one, ("map", ("map", ("row", 20))), ("some", ["a"]),
                      ("some", ["b", "c", "d"]))
        check_call(self, True, are_one, kind=("map", ("map", ("row", 17))), view=("some", list("abcd")),
                   other=("some", list("dcba")))
        check_refused(self, TooMany, many, are_one, ("map", ("map", ("row", 18))), ("some", list("abcd")),
                      ("some", list("dcba")))


if __name__ == "__main__":
    unittest.main()
