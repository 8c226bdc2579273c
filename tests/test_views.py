import unittest

from partsmet.errors import InvalidKind, InvalidState, InvalidView
from partsmet.joins import join, joined
from partsmet.kinds import is_kind, told_kind
from partsmet.parts import part_list
from partsmet.states import is_state
from partsmet.views import is_view, view_kind, worth
from tests.oracle import least_of
from tests.samples import (
    BAG,
    DIAMOND,
    FLAG,
    NAMES,
    ODD_VALUES,
    SPANS,
    STEPS,
    WRONG_KINDS,
    as_tuples,
    check_call,
    check_refused,
    kinds_with_states,
)

COUNT = ("count",)
NEST = ("map", NAMES)
DEEP = ("map", ("map", NAMES))
PAIR = ("pair", NAMES, ("above", COUNT, STEPS))
LATER = ("later", COUNT, BAG)
ABOVE = ("above", STEPS, NAMES)
OPEN = ("map", PAIR)
SAME, JOINED, FIRST, SECOND, UPPER = ("same",), ("joined",), ("first",), ("second",), ("upper",)
TWO = [("a", [("x", 2)]), ("b", [("x", 1), ("y", 3)])]
THREE = [("a", 2), ("b", 1), ("c", 5)]
SPREAD = [("a", ([("x", 4)], ("low", 9))), ("b", ([], ("high", [0]))), ("c", ([("x", 1), ("y", 1)], ("high", [2])))]

# Kinds, views of them, the views' kinds, and tuples of a state and its worth.
VIEWS = [
    (COUNT, SAME, COUNT, [(7, 7)]),
    (STEPS, SAME, STEPS, [([0, 2], [0, 2])]),
    (LATER, SAME, LATER, [((2, [("a", 1)]), (2, [("a", 1)]))]),
    (NAMES, ("at", "a"), COUNT, [(THREE, 2), ([], 0), ([("b", 1)], 0)]),
    (NEST, ("at", "b"), NAMES, [(TWO, [("x", 1), ("y", 3)]), ([], []), ([("a", [("b", 1)])], [])]),
    (("map", ABOVE), ("at", "a"), ABOVE, [([], ("low", [])), ([("a", ("high", []))], ("high", []))]),
    (NAMES, ("some", ["c", "a"]), NAMES, [(THREE, [("a", 2), ("c", 5)]), ([("b", 1)], [])]),
    (NAMES, ("some", []), NAMES, [(THREE, [])]),
    (NEST, ("some", ["b", "x"]), NEST, [(TWO, TWO[1:])]),
    (NAMES, ("renamed", []), NAMES, [(THREE, THREE)]),
    (NAMES, ("renamed", [("a", "b"), ("c", "a")]), NAMES, [(THREE, [("a", 5), ("b", 2)])]),
    (NAMES, ("renamed", [("a", "b"), ("b", "a")]), NAMES, [(THREE, [("a", 1), ("b", 2), ("c", 5)])]),
    (NAMES, ("renamed", [("a", "b"), ("b", "c")]), NAMES, [(THREE, [("b", 2), ("c", 5)])]),
    (NAMES, ("renamed", [("a", "z"), ("b", "z"), ("c", "z")]), NAMES, [(THREE, [("z", 5)])]),
    (NAMES, ("renamed", [("x", "a"), ("b", "b")]), NAMES, [(THREE, THREE), ([("x", 3)], [("a", 3)])]),
    (NEST, ("renamed", [("b", "a")]), NEST, [(TWO, [("a", [("x", 2), ("y", 3)])])]),
    (NAMES, JOINED, COUNT, [(THREE, 5), ([], 0)]),
    (NEST, JOINED, NAMES, [(TWO, [("x", 2), ("y", 3)]), ([], [])]),
    (("map", STEPS), JOINED, STEPS, [([("a", [0]), ("b", [1]), ("c", [2])], [1, 2])]),
    (("map", ("table", DIAMOND)), JOINED, ("table", DIAMOND), [([("a", 1), ("b", 3)], 4)]),
    (("map", LATER), JOINED, LATER, [([("a", (1, [("x", 1)])), ("b", (1, [("y", 1)]))], (1, [("x", 1), ("y", 1)]))]),
    (PAIR, FIRST, NAMES, [((THREE, ("low", 3)), THREE)]),
    (PAIR, SECOND, PAIR[2], [((THREE, ("low", 3)), ("low", 3))]),
    (LATER, FIRST, COUNT, [((4, [("a", 1)]), 4)]),
    (ABOVE, UPPER, NAMES, [(("low", [1, 2]), []), (("high", THREE), THREE), (("high", []), [])]),
    (("above", COUNT, ("above", FLAG, FLAG)), UPPER, ("above", FLAG, FLAG), [(("low", 4), ("low", 0))]),
    (NEST, ("values", JOINED), NAMES, [(TWO, [("a", 2), ("b", 3)]), ([], [])]),
    (NEST, ("values", ("at", "y")), NAMES, [(TWO, [("b", 3)])]),
    (("map", ABOVE), ("values", UPPER), NEST, [([("a", ("high", [])), ("b", ("low", [1])), ("c", ("high", THREE))],
                                                [("c", THREE)])]),
    (DEEP, ("values", ("values", JOINED)), NEST, [([("k", TWO)], [("k", [("a", 2), ("b", 3)])])]),
    (NAMES, ("both", ("at", "a"), JOINED), ("pair", COUNT, COUNT), [(THREE, (2, 5)), ([], (0, 0))]),
    (PAIR, ("both", SECOND, FIRST), ("pair", PAIR[2], NAMES), [(([], ("high", [1])), (("high", [1]), []))]),
    (NEST, ("then", ("at", "b"), ("at", "y")), COUNT, [(TWO, 3)]),
    (NEST, ("then", JOINED, ("some", ["x"])), NAMES, [(TWO, [("x", 2)])]),
    (NAMES, ("then", ("renamed", [("a", "b")]), ("at", "b")), COUNT, [(THREE, 2)]),
    (NAMES, ("then", ("renamed", [("a", "b"), ("b", "a")]), ("renamed", [("a", "b"), ("b", "a")])), NAMES,
     [(THREE, THREE)]),
    (NAMES, ("then", ("both", SAME, JOINED), SECOND), COUNT, [(THREE, 5)]),
    (OPEN, ("values", FIRST), NEST, [(SPREAD, [("a", [("x", 4)]), ("c", [("x", 1), ("y", 1)])])]),
    (OPEN, ("values", ("then", SECOND, UPPER)), ("map", STEPS), [(SPREAD, [("b", [0]), ("c", [2])])]),
    (OPEN, ("then", JOINED, ("both", ("then", FIRST, ("at", "x")), ("then", SECOND, UPPER))), ("pair", COUNT, STEPS),
     [(SPREAD, (4, [0, 2])), ([], (0, []))]),
    (OPEN, ("then", ("values", ("then", FIRST, JOINED)), JOINED), COUNT, [(SPREAD, 4)]),
    (("pair", LATER, ("table", SPANS)), ("then", FIRST, FIRST), COUNT, [((((6, []), 4), 6))]),
]

# Kinds and values that are no views of them.
NO_VIEWS = [
    (NAMES, [
        ["same"], "same", ("same", 0), ("same", ()), ("Same",), (b"same",), ("at",), ("at", "a", "b"), ["at", "a"],
        ("at", "A"),
        ("at", ""), ("at", "abcdefghi"), ("at", "a1"), ("at", b"a"), ("at", None), ("at", ["a"]), ("at", ("a",)),
        ("at", 1),
        ("some",), ("some", "a"), ("some", "ab"), ("some", ["a", "a"]), ("some", ["a", "A"]), ("some", ["a", 1]),
        ("some", {"a"}),
        ("some", {"a": 1}), ("some", None), ("some", [["a"]]), ("some", ["a", None]), ("some", list("abcdefg")),
        ("some", ["a"], []),
        ("renamed",), ("renamed", [["a", "b"]]), ("renamed", [("a",)]), ("renamed", [("a", "b", "c")]),
        ("renamed", ("a", "b")),
        ("renamed", [("a", "b"), ("a", "c")]), ("renamed", [("a", "b"), ("a", "b")]), ("renamed", [("a", "B")]),
        ("renamed", [(1, "b")]),
        ("renamed", [("a", None)]), ("renamed", {"a": "b"}), ("renamed", {("a", "b")}), ("renamed", "ab"),
        ("renamed", ["ab"]), ("renamed", [([], "b")]),
        ("renamed", [(name, "z") for name in "abcdefg"]), ("joined", 0), FIRST, SECOND, UPPER, ("inner",), ("values",),
        ("values", JOINED), ("values", ("at", "a")), ("values", SAME, SAME), ("values", [SAME]), ("values", "same"),
        ("values", ["same"]),
        ("both", SAME), ("both", SAME, SAME, SAME), ("both", SAME, UPPER), ("both", UPPER, SAME),
        ("both", SAME, None), ("both", SAME, ["same"]),
        ("then", SAME), ("then", SAME, SAME, SAME), ("then", JOINED, JOINED), ("then", UPPER, SAME),
        ("then", ("at", "a"), ("at", "a")),
        ("then", ("both", SAME, SAME), ("at", "a")), ("then", JOINED, UPPER), ("then", SAME, ["same"]), (SAME,),
        [SAME], (),
        (["same"],), ([],), ({},), (["at"], "a"), (None,), (0, SAME), ("some", {("a",): 1}),
        ("renamed", {("a", "b"): 1}),
    ]),
    (COUNT, [JOINED, ("at", "a"), ("some", []), ("renamed", []), ("values", SAME), FIRST, SECOND, UPPER]),
    (PAIR, [JOINED, ("at", "a"), ("some", []), ("renamed", []), ("values", SAME), UPPER, ("then", FIRST, FIRST),
            ("then", SECOND, SECOND)]),
    (LATER, [SECOND, JOINED, ("at", "a"), UPPER, ("then", FIRST, SECOND), ("both", FIRST, SECOND), ("values", SAME),
             ("second", 0)]),
    (("above", NAMES, NAMES), [FIRST, SECOND, JOINED, ("at", "a"), ("some", []), ("lower",), ("low",), ("high",),
                               ("values", SAME)]),
    (("table", DIAMOND), [JOINED, FIRST, SECOND, UPPER, ("at", "a")]),
]


def chained(many):
    """Views in one another, so many deep."""
    view = SAME
    for _ in range(many - 1):
        view = ("then", view, SAME)
    return view


def grown(many):
    """Views in one another at most five deep, so many in all, an odd number, that keep the kind."""
    views = [SAME] * ((many + 1) // 2)
    while len(views) > 1:
        pairs = [views[at:at + 2] for at in range(0, len(views), 2)]
        views = [("then", *pair) if len(pair) == 2 else pair[0] for pair in pairs]
    return views[0]


def count(view):
    return 1 + sum(count(each) for each in view[1:] if isinstance(each, tuple))


class Words(unittest.TestCase):
    def test_kinds_and_worths(self):
        for kind, view, seen, worths in VIEWS:
            check_call(self, True, is_view, kind=kind, value=view)
            check_call(self, seen, view_kind, kind=kind, view=view)
            for state, answer in worths:
                check_call(self, answer, worth, kind=kind, view=view, state=state)

    def test_tuples_for_lists(self):
        for kind, view, seen, worths in VIEWS:
            check_call(self, True, is_view, kind=as_tuples(kind), value=as_tuples(view))
            check_call(self, seen, view_kind, kind=as_tuples(kind), view=as_tuples(view))
            for state, answer in worths:
                check_call(self, answer, worth, kind=as_tuples(kind), view=as_tuples(view), state=as_tuples(state))

    def test_kinds_as_told(self):
        kind = ("pair", ("tops", 3, ((1, 2), (0, 1), (1, 2))), ("table", ((0, 1), (1, 1))))
        check_call(self, ("tops", 3, [(0, 1), (1, 2)]), view_kind, kind=kind, view=FIRST)
        check_call(self, ("pair", ("table", [[0, 1], [1, 1]]), ("table", [[0, 1], [1, 1]])), view_kind,
                   kind=kind, view=("both", SECOND, SECOND))

    def test_one_list_for_both(self):
        check_call(self, ([0, 2], [0, 2]), worth, kind=STEPS, view=("both", SAME, SAME), state=[0, 2])
        check_call(self, ([("a", 1)], [("a", 1)]), worth, kind=BAG, view=("both", SAME, ("some", ["a"])),
                   state=[("a", 1)])

    def test_facts(self):
        """Least states are seen as least ones; worths go through joins, and so through parts."""
        states = {repr(kind): states for kind, states in kinds_with_states()}
        for kind, view, seen, worths in VIEWS:
            known = [state for state, _ in worths] + states.get(repr(kind), [])[:12] + [least_of(kind)]
            self.assertEqual(worth(kind, view, least_of(kind)), least_of(seen))
            for one in known:
                self.assertTrue(is_state(seen, worth(kind, view, one)))
                by_parts = [worth(kind, view, each) for each in part_list(kind, one)]
                self.assertEqual(worth(kind, view, one), joined(seen, by_parts))
                for other in known:
                    both = join(seen, worth(kind, view, one), worth(kind, view, other))
                    self.assertEqual(worth(kind, view, join(kind, one, other)), both)

    def test_views_of_all_kinds(self):
        """Each word is a view of just the kinds of the table."""
        of_maps = [("at", "a"), ("some", ["b"]), ("renamed", [("a", "b")]), JOINED, ("values", SAME)]
        for kind, states in kinds_with_states():
            for views, words in [
                ([SAME, ("then", SAME, SAME)], [kind[0]]),
                (of_maps, ["map"]),
                ([FIRST], ["pair", "later"]),
                ([SECOND], ["pair"]),
                ([UPPER], ["above"]),
            ]:
                for view in views:
                    check_call(self, kind[0] in words, is_view, kind=kind, value=view)
                    if kind[0] in words:
                        for state in states[:6]:
                            self.assertTrue(is_state(view_kind(kind, view), worth(kind, view, state)))
            if is_kind(("pair", kind, kind)):
                check_call(self, ("pair", kind, kind), view_kind, kind=kind, view=("both", SAME, SAME))
            if is_kind(("map", kind)):
                whole = ("map", kind)
                entries = [("k", state) for state in states[:3] if state != least_of(kind)][:1]
                check_call(self, entries, worth, kind=whole, view=("values", SAME), state=entries)


class Bounds(unittest.TestCase):
    def test_five_deep(self):
        for kind in (COUNT, NAMES, LATER):
            for many, answer in [(1, True), (4, True), (5, True), (6, False), (9, False)]:
                check_call(self, answer, is_view, kind=kind, value=chained(many))
            for sides in [("both", chained(4), SAME), ("both", SAME, chained(4))]:
                check_call(self, True, is_view, kind=kind, value=sides)
                check_call(self, False, is_view, kind=kind, value=("then", sides, FIRST))
            check_call(self, False, is_view, kind=kind, value=("both", chained(5), SAME))
            check_call(self, False, is_view, kind=kind, value=("both", SAME, chained(5)))
        deep = ("map", ("map", ("map", ("map", COUNT))))
        self.assertFalse(is_kind(deep))
        down = ("then", JOINED, ("then", JOINED, ("then", JOINED, SAME)))
        check_call(self, True, is_view, kind=DEEP, value=down)
        check_call(self, False, is_view, kind=DEEP, value=("then", SAME, ("then", SAME, down)))
        check_call(self, True, is_view, kind=DEEP, value=("then", SAME, down))
        check_call(self, True, is_view, kind=DEEP, value=("values", ("values", ("values", ("then", SAME, SAME)))))
        check_call(self, False, is_view, kind=DEEP, value=("values",
                                                           ("values", ("values", ("then", chained(2), SAME)))))

    def test_twelve_in_all(self):
        for many in (1, 3, 7, 9, 11):
            self.assertEqual(count(grown(many)), many)
            check_call(self, True, is_view, kind=NAMES, value=grown(many))
        twelve, thirteen = ("then", grown(7), ("values", ("then", SAME, SAME))), ("then", grown(7), grown(5))
        self.assertEqual((count(twelve), count(thirteen)), (12, 13))
        check_call(self, True, is_view, kind=NAMES, value=twelve)
        check_call(self, THREE, worth, kind=NAMES, view=twelve, state=THREE)
        check_call(self, False, is_view, kind=NAMES, value=thirteen)
        check_call(self, False, is_view, kind=NAMES, value=grown(15))
        rest = ("then", grown(7), ("values", SAME))
        for kind in (NAMES, BAG):
            for twelve in [("both", ("at", "a"), rest), ("both", ("some", ["a", "b"]), rest),
                           ("both", rest, ("renamed", [("a", "b")]))]:
                self.assertEqual(count(twelve), 12)
                check_call(self, True, is_view, kind=kind, value=twelve)
            check_call(self, False, is_view, kind=kind, value=("both", ("values", SAME), rest))
            check_call(self, False, is_view, kind=kind, value=("both", ("then", SAME, SAME), rest))
            check_call(self, False, is_view, kind=kind, value=("both", ("both", SAME, SAME), rest))
        check_refused(self, InvalidView, {"value": thirteen}, worth, NAMES, thirteen, [])

    def test_six_names(self):
        six, seven = list("fedcba"), list("abcdefg")
        state = [(name, at + 1) for at, name in enumerate(seven)]
        check_call(self, state[:6], worth, kind=NAMES, view=("some", six), state=state)
        check_call(self, [("g", 7), ("z", 6)], worth, kind=NAMES, view=("renamed", [(name, "z") for name in six]),
                   state=state)
        for view in [("some", seven), ("renamed", [(name, name) for name in seven])]:
            check_call(self, False, is_view, kind=NAMES, value=view)
            check_refused(self, InvalidView, {"value": view}, view_kind, NAMES, view)
        for name in ("abcdefgh", "zzzzzzzz"):
            check_call(self, True, is_view, kind=NAMES, value=("at", name))

    def test_kinds_on_the_way(self):
        """Each kind that is told on the way is one, within its bounds, also where the last one is small."""
        one_deep, four = ("both", SAME, SAME), ("map", ("map", NAMES))
        self.assertTrue(is_kind(four))
        check_call(self, False, is_view, kind=four, value=one_deep)
        check_call(self, False, is_view, kind=four, value=("then", one_deep, FIRST))
        check_call(self, True, is_view, kind=NEST, value=one_deep)
        check_call(self, True, is_view, kind=NEST, value=("then", one_deep, FIRST))
        check_call(self, False, is_view, kind=NEST, value=("both", one_deep, SAME))
        check_call(self, True, is_view, kind=four, value=("both", JOINED, JOINED))
        check_call(self, True, is_view, kind=four, value=("values", JOINED))
        check_call(self, False, is_view, kind=four, value=("values", one_deep))
        check_call(self, False, is_view, kind=four, value=("then", ("values", one_deep), JOINED))
        check_call(self, True, is_view, kind=NEST, value=("values", one_deep))
        check_call(self, False, is_view, kind=NEST, value=("values", ("both", one_deep, SAME)))
        check_call(self, False, is_view, kind=NEST, value=("then", ("values", ("both", one_deep, SAME)), ("some", [])))

    def test_twelve_kinds_on_the_way(self):
        five = ("pair", ("pair", COUNT, COUNT), ("row", 2))
        six = ("pair", ("map", COUNT), ("pair", COUNT, FLAG))
        check_call(self, ("pair", five, five), view_kind, kind=five, view=("both", SAME, SAME))
        check_call(self, False, is_view, kind=six, value=("both", SAME, SAME))
        check_call(self, False, is_view, kind=six, value=("then", ("both", SAME, SAME), ("then", FIRST, FIRST)))
        check_call(self, True, is_view, kind=six, value=("both", SAME, SECOND))
        check_call(self, False, is_view, kind=("map", six), value=("values", ("both", SAME, SAME)))


class Refused(unittest.TestCase):
    def test_judged(self):
        for kind, values in NO_VIEWS:
            for value in values + ODD_VALUES:
                check_call(self, False, is_view, kind=kind, value=value)
                if is_kind(("map", kind)):
                    check_call(self, False, is_view, kind=("map", kind), value=("values", value))
                check_call(self, False, is_view, kind=kind, value=("then", SAME, value))
                check_call(self, False, is_view, kind=kind, value=("then", value, SAME))
                check_call(self, False, is_view, kind=kind, value=("both", value, SAME))

    def test_kinds(self):
        for value in WRONG_KINDS:
            check_refused(self, InvalidKind, {"value": value}, is_view, value, SAME)
            check_refused(self, InvalidKind, {"value": value}, is_view, value=None, kind=value)
            check_refused(self, InvalidKind, {"value": value}, view_kind, value, None)
            check_refused(self, InvalidKind, {"value": value}, view_kind, view=SAME, kind=value)
            check_refused(self, InvalidKind, {"value": value}, worth, value, None, None)
            check_refused(self, InvalidKind, {"value": value}, worth, state=0, view=SAME, kind=value)

    def test_views(self):
        for kind, values in NO_VIEWS:
            for value in values + ODD_VALUES:
                check_refused(self, InvalidView, {"value": value}, view_kind, kind, value)
                check_refused(self, InvalidView, {"value": value}, view_kind, view=value, kind=kind)
                check_refused(self, InvalidView, {"value": value}, worth, kind, value, None)
                check_refused(self, InvalidView, {"value": value}, worth, state=least_of(kind), view=value, kind=kind)

    def test_states(self):
        rows = [
            (NAMES, JOINED, [5, [("a", 0)], [("a", True)], [("b", 1), ("a", 1)], [["a", 1]]]),
            (LATER, FIRST, [(True, []), (0, [("a", 2)]), [0, []], 0]),
            (ABOVE, UPPER, [("low", [0, 1]), ("high", [("a", 0)]), ("mid", []), ["low", []]]),
            (("pair", told_kind(STEPS), NAMES), ("then", FIRST, SAME), [([], [("a", 0)]), ([0, 1], []), ([],)]),
        ]
        for kind, view, values in rows:
            for value in values + ODD_VALUES:
                check_refused(self, InvalidState, {"value": value}, worth, kind, view, value)
                check_refused(self, InvalidState, {"value": value}, worth, state=value, view=view, kind=kind)


if __name__ == "__main__":
    unittest.main()
