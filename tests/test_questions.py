import itertools
import unittest

from partsmet.errors import InvalidKind, InvalidQuestion, InvalidState, NotEven, NotSingle, TooMany
from partsmet.grades import grade
from partsmet.joins import is_at_most, join
from partsmet.parts import is_part, part_list
from partsmet.questions import asked, decider, goes_through, is_question, is_two_below, two_below
from partsmet.states import all_states
from partsmet.views import view_kind, worth
from tests.oracle import Told, bounded_states, least_of
from tests.samples import (
    BAG,
    CUBE,
    DIAMOND,
    EVEN_KINDS,
    FINITE_KINDS,
    FLAG,
    FORK,
    LISTS_KINDS,
    NAMES,
    NEITHER_KINDS,
    ODD_VALUES,
    ONE_STATE,
    SPANS,
    SQUARE,
    STEPS,
    WRONG_KINDS,
    as_tuples,
    check_call,
    check_refused,
)

COUNT = ("count",)
GEM = ("table", DIAMOND)
NEST = ("map", NAMES)
LATER = ("later", COUNT, NAMES)
ABOVE = ("above", NAMES, STEPS)
OPEN = ("pair", NAMES, ("above", COUNT, STEPS))
WIDE = ("map", ("later", ("row", 4), ("row", 19)))
SAME, JOINED, FIRST, SECOND, UPPER = ("same",), ("joined",), ("first",), ("second",), ("upper",)
AT_A = ("at", "a")
OF_SHAPES = [goes_through, decider, two_below]
COUNTS = {"what": "counts", "limit": 5}
SHAPES = {"what": "shapes", "limit": 600}

# Kinds, questions, and whether they go through joins by which decider: None for none, "least" for least states.
QUESTIONS = [
    (COUNT, (SAME, 3), 0),
    (COUNT, (SAME, 0), "least"),
    (("row", 20), (SAME, 19), 0),
    (STEPS, (SAME, [1]), 0),
    (STEPS, (SAME, [1, 2]), None),
    (("table", SQUARE), (SAME, 3), None),
    (("table", CUBE), (SAME, 7), None),
    (("table", CUBE), (SAME, 4), 0),
    (NAMES, (AT_A, 2), 0),
    (NAMES, (AT_A, 0), "least"),
    (NAMES, (JOINED, 4), 0),
    (NAMES, (SAME, []), "least"),
    (NAMES, (SAME, [("a", 5)]), 0),
    (NAMES, (SAME, [("a", 1), ("b", 2)]), None),
    (NAMES, (("both", JOINED, AT_A), (2, 3)), 0),
    (NAMES, (("both", JOINED, AT_A), (3, 3)), 0),
    (NAMES, (("both", JOINED, AT_A), (5, 3)), None),
    (NAMES, (("both", AT_A, JOINED), (3, 2)), 1),
    (NAMES, (("both", AT_A, JOINED), (0, 2)), 0),
    (NAMES, (("both", AT_A, ("at", "b")), (1, 1)), None),
    (NAMES, (("both", SAME, JOINED), ([("a", 2), ("b", 1)], 1)), None),
    (NAMES, (("both", SAME, JOINED), ([("a", 2)], 1)), 1),
    (NAMES, (("renamed", [("a", "c"), ("b", "c")]), [("c", 3)]), 0),
    (NAMES, (("renamed", [("a", "c"), ("b", "d")]), [("c", 3), ("d", 1)]), None),
    (NAMES, (("both", ("renamed", [("a", "c")]), ("renamed", [("a", "d")])), ([("c", 1)], [("d", 1)])), None),
    # Nothing stands under a name that was renamed: no part answers, so each one that does answers all.
    (NAMES, (("then", ("renamed", [("a", "b")]), ("some", ["a"])), [("a", 1)]), 0),
    (NAMES, (("then", ("renamed", [("b", "c")]), ("some", ["a", "b"])), [("a", 1), ("b", 1)]), 1),
    (NEST, (JOINED, [("x", 2), ("y", 1)]), None),
    (NEST, (("values", JOINED), [("x", 2)]), 0),
    (NEST, (("both", JOINED, ("values", JOINED)), ([("b", 2)], [("a", 2)])), None),
    (NEST, (("both", ("then", JOINED, JOINED), ("then", AT_A, ("at", "b"))), (3, 3)), 0),
    (OPEN, (SAME, ([("a", 1)], ("low", 0))), 0),
    (OPEN, (SAME, ([("a", 1)], ("low", 2))), None),
    (OPEN, (("then", SECOND, UPPER), [1]), 0),
    (OPEN, (("then", SECOND, UPPER), []), "least"),
    (OPEN, (SECOND, ("high", [])), 0),
    (OPEN, (SECOND, ("high", [0, 2])), None),
    (OPEN, (("both", SECOND, ("then", SECOND, UPPER)), (("low", 5), [1])), 0),
    (LATER, (SAME, (2, [])), 0),
    (LATER, (SAME, (2, [("a", 1)])), 0),
    (LATER, (SAME, (2, [("a", 1), ("b", 1)])), None),
    (LATER, (FIRST, 5), 0),
    (("later", ("row", 3), BAG), (("both", FIRST, SAME), (2, (1, []))), 1),
    (("later", ("row", 3), BAG), (("both", FIRST, SAME), (1, (2, []))), 0),
    (("later", ("above", COUNT, FLAG), FLAG), (("both", ("then", FIRST, UPPER), SAME), (1, (("low", 4), 1))), 1),
    (ABOVE, (SAME, ("high", [])), 0),
    (ABOVE, (SAME, ("low", [("a", 1), ("b", 1)])), None),
    (ABOVE, (("both", SAME, UPPER), (("low", [("a", 3)]), [0])), 0),
    (("pair", ("table", SPANS), ("row", 3)), (SECOND, 2), 0),
    (("pair", ("table", SPANS), ("tops", 2, [])), (SECOND, [0, 1]), None),
    (("map", ("pair", ("table", SPANS), COUNT)), (("values", SECOND), [("a", 5)]), 0),
    (("above", ("table", SPANS), FORK), (UPPER, [2, 3]), None),
]

# Kinds and values that are no questions of them.
NO_QUESTIONS = [
    (NAMES, [
        (SAME,), (SAME, [], 0), [SAME, []], ((SAME,), []), (["same"], []), ("same", []), (FIRST, []), (UPPER, 0),
        (AT_A, -1), (AT_A, True),
        (AT_A, [("a", 1)]), (("at", "A"), 1), (SAME, 1), (SAME, [("a", 0)]), (SAME, [("b", 1), ("a", 1)]),
        (SAME, None), (None, 1),
        (SAME, [("a", True)]), (JOINED, "1"), ([], SAME), (("some", ["a", "a"]), []), (JOINED, []), SAME,
        (("both", SAME, JOINED), []),
        (("both", SAME, JOINED), [[], 0]), (("then", JOINED, JOINED), 0), (),
    ]),
    (LATER, [(SECOND, []), (FIRST, (0, [])), (FIRST, False), (SAME, [0, []]), (SAME, (True, [])), ((FIRST, 0),)]),
    (ABOVE, [(UPPER, ("high", [])), (UPPER, [0, 1]), (SAME, ("mid", [])), (SAME, ["low", []]), (FIRST, [])]),
]


def names_of(value):
    """All names that stand in a value, and some words that do no harm."""
    if isinstance(value, str):
        return [value]
    return [name for each in value for name in names_of(each)] if isinstance(value, (list, tuple)) else []


def many_parts(kind, question):
    """Parts with all names of the question and three further ones, and with greater counts than its."""
    names = sorted(set(names_of(question[1])) | set(names_of(question[0])) - {"at", "some"} | {"p", "q", "r"})
    return [each for each in bounded_states(kind, names[:8], 7) if is_part(kind, each)]


def answers(kind, question, state):
    seen = view_kind(kind, question[0])
    return [is_at_most(seen, each, worth(kind, question[0], state)) for each in part_list(seen, question[1])]


class Asked(unittest.TestCase):
    def test_told(self):
        rows = [
            (NAMES, (AT_A, 2), [("a", 3)], True),
            (NAMES, (AT_A, 2), [("b", 3)], False),
            (NAMES, (JOINED, 4), [("a", 3), ("b", 1)], False),
            (NAMES, (JOINED, 4), [("a", 3), ("b", 4)], True),
            (NAMES, (SAME, [("b", 1)]), [("a", 3), ("b", 4)], True),
            (NAMES, (("both", AT_A, JOINED), (3, 4)), [("a", 3), ("b", 4)], True),
            (LATER, (SAME, (2, [("a", 9)])), (3, []), True),
            (LATER, (SAME, (2, [("a", 9)])), (2, [("a", 8)]), False),
            (ABOVE, (UPPER, [0]), ("high", [1]), True),
            (ABOVE, (UPPER, [0]), ("low", [("a", 1)]), False),
            (ABOVE, (UPPER, []), ("low", [("a", 1)]), True),
            (GEM, (SAME, 3), 4, True),
            (("later", NAMES, COUNT), (FIRST, [("a", 100)]), ([("a", 100)], 0), True),
            (("map", GEM), (JOINED, 4), [("a", 1), ("b", 2)], True),
        ]
        for kind, question, state, answer in rows:
            check_call(self, answer, asked, kind=kind, question=question, state=state)
            check_call(self, answer, asked, kind=as_tuples(kind), question=as_tuples(question), state=as_tuples(state))

    def test_least_ones_are_always_yes(self):
        for kind in EVEN_KINDS + LISTS_KINDS + NEITHER_KINDS:
            for state in bounded_states(kind, ["a", "b"], 2)[:6]:
                check_call(self, True, asked, kind=kind, question=(SAME, least_of(kind)), state=state)
                check_call(self, state == least_of(kind), asked, kind=kind, question=(SAME, state),
                           state=least_of(kind))


class Through(unittest.TestCase):
    def test_told(self):
        for kind, question, told in QUESTIONS:
            place = None if told == "least" else told
            for named in ({"kind": kind, "question": question},
                          {"kind": as_tuples(kind), "question": as_tuples(question)}):
                check_call(self, True, is_question, kind=named["kind"], value=named["question"])
                check_call(self, told is not None, goes_through, **named)
                check_call(self, place, decider, **named)
                found = two_below(**named)
                check_call(self, found, two_below, **named)
                self.assertEqual(found is None, told is not None, (kind, question))
                if found is not None:
                    check_call(self, True, is_two_below, **named, value=found)
                    check_call(self, True, is_two_below, **named, value=as_tuples(found))
                    self.assertFalse(asked(kind, question, found[0]) or asked(kind, question, found[1]))
                    self.assertTrue(asked(kind, question, join(kind, *found)))

    def test_deciders_by_many_parts(self):
        for kind, question, told in QUESTIONS:
            rows = [answers(kind, question, part) for part in many_parts(kind, question)]
            many = len(part_list(view_kind(kind, question[0]), question[1]))
            places = [at for at in range(many) if all(all(row) for row in rows if row[at])]
            self.assertEqual(decider(kind, question), places[0] if places else None, (kind, question))
            self.assertEqual(many == 0, told == "least")

    def test_joins_of_many_states(self):
        for kind, question, told in QUESTIONS:
            parts = many_parts(kind, question)
            parts = parts[::1 + len(parts) // 40]
            for one, other in itertools.product(parts, repeat=2):
                either = asked(kind, question, one) or asked(kind, question, other)
                if told is not None:
                    self.assertEqual(asked(kind, question, join(kind, one, other)), either,
                                     (kind, question, one, other))

    def test_finite_by_all_states(self):
        """All questions for a state as it is, of finite kinds with least differences."""
        seen = []
        for kind in FINITE_KINDS:
            told = Told(kind)
            if grade(kind) != "differences" or len(told.states) > 20:
                continue
            many = range(len(told.states))
            for goal, state in enumerate(told.states):
                yes = told.order[goal]
                through = all(yes[told.joins[one][other]] == (yes[one] or yes[other]) for one in many for other in many)
                question = (SAME, state)
                self.assertIs(goes_through(kind, question), through)
                self.assertIs(two_below(kind, question) is None, through)
                self.assertEqual(decider(kind, question), 0 if through and goal != told.least else None)
                for one, other in itertools.product(many, repeat=2):
                    answer = not yes[one] and not yes[other] and yes[told.joins[one][other]]
                    value = (told.states[one], told.states[other])
                    self.assertIs(is_two_below(kind, question, value), answer)
                seen.append(through)
        self.assertTrue(True in seen and False in seen)

    def test_two_kinds_at_once(self):
        """Of three parts that are asked for, two may come along with one part, but not the third one."""
        view = ("both", SAME, JOINED)
        for goal, through in [(([("a", 1)], 1), True), (([("a", 1), ("b", 1)], 1), False), (([], 1), True)]:
            check_call(self, through, goes_through, kind=NAMES, question=(view, goal))
        found = two_below(NAMES, (view, ([("a", 2), ("b", 3), ("c", 1)], 3)))
        self.assertEqual(sorted(name for name, _ in join(NAMES, *found)), ["a", "b", "c"])

    def test_single_kinds(self):
        for kind in ONE_STATE:
            question = (SAME, least_of(kind))
            check_call(self, True, goes_through, kind=kind, question=question)
            check_call(self, None, decider, kind=kind, question=question)
            check_call(self, None, two_below, kind=kind, question=question)


class TwoBelow(unittest.TestCase):
    def test_told(self):
        question = (SAME, [("a", 1), ("b", 2)])
        yes = [([("a", 1)], [("b", 3)]), ((("b", 2),), [("a", 9), ("c", 1)]), ([("a", 1), ("b", 1)], [("b", 2)])]
        no = [
            ([("a", 1)], [("b", 1)]), ([("a", 1), ("b", 2)], []), ([], [("a", 1), ("b", 2)]), ([], []),
            [[("a", 1)], [("b", 3)]],
            ([("a", 1)],), ([("a", 1)], [("b", 3)], []), ([("a", 1)], [("b", True)]), ([("a", 1)], [["b", 3]]),
            ([("a", 1)], None),
            (None, [("b", 3)]), ([("a", 1)], [("b", 3), ("b", 3)]), (), [("a", 1)], ([("a", 0)], [("b", 3)]),
        ]
        for value in yes:
            check_call(self, True, is_two_below, kind=NAMES, question=question, value=value)
        for value in no + ODD_VALUES:
            check_call(self, False, is_two_below, kind=NAMES, question=question, value=value)
        for value in yes + no + ODD_VALUES:
            check_call(self, False, is_two_below, kind=NAMES, question=(SAME, []), value=value)
            check_call(self, False, is_two_below, kind=NAMES, question=(JOINED, 2), value=value)

    def test_of_every_kind(self):
        """Kinds without single lists, views of kinds without least differences, and counts of any size."""
        check_call(self, True, is_two_below, kind=GEM, question=(SAME, 4), value=(1, 3))
        check_call(self, True, is_two_below, kind=GEM, question=(SAME, 3), value=(1, 2))
        check_call(self, False, is_two_below, kind=GEM, question=(SAME, 4), value=(1, 4))
        check_call(self, True, is_two_below, kind=("map", GEM), question=(JOINED, 3), value=([("a", 1)], [("b", 2)]))
        check_call(self, True, is_two_below, kind=("later", BAG, FLAG), question=(SAME, ([("a", 1), ("b", 1)], 0)),
                   value=(([("a", 1)], 1), ([("b", 1)], 1)))
        check_call(self, True, is_two_below, kind=("table", SPANS), question=(SAME, 6), value=(1, 3))
        check_call(self, True, is_two_below, kind=("pair", COUNT, COUNT), question=(SAME, (100, 10**20)),
                   value=((200, 0), (0, 10**20)))

    def test_all_of_a_diamond(self):
        for goal in range(5):
            for one, other in itertools.product(all_states(GEM), repeat=2):
                yes = [DIAMOND[goal][each] == each for each in (one, other, DIAMOND[one][other])]
                self.assertIs(is_two_below(GEM, (SAME, goal), (one, other)), yes == [False, False, True])


class Refused(unittest.TestCase):
    def test_judged(self):
        for kind, values in NO_QUESTIONS:
            for value in values + ODD_VALUES:
                check_call(self, False, is_question, kind=kind, value=value)

    def test_kinds(self):
        for value in WRONG_KINDS:
            check_refused(self, InvalidKind, {"value": value}, is_question, value, None)
            check_refused(self, InvalidKind, {"value": value}, is_question, value=(SAME, 0), kind=value)
            for function in OF_SHAPES:
                check_refused(self, InvalidKind, {"value": value}, function, value, None)
                check_refused(self, InvalidKind, {"value": value}, function, question=(SAME, 0), kind=value)
            for function in (asked, is_two_below):
                check_refused(self, InvalidKind, {"value": value}, function, value, None, None)
            check_refused(self, InvalidKind, {"value": value}, asked, state=0, question=(SAME, 0), kind=value)

    def test_questions(self):
        rows = NO_QUESTIONS + [(("map", GEM), [(SAME, [("a", 5)]), (JOINED, 5), (FIRST, 0)]),
                               (GEM, [(SAME, 5), (JOINED, 4)])]
        for kind, values in rows:
            for value in values + ODD_VALUES:
                for function in OF_SHAPES:
                    check_refused(self, InvalidQuestion, {"value": value}, function, kind, value)
                    check_refused(self, InvalidQuestion, {"value": value}, function, question=value, kind=kind)
                check_refused(self, InvalidQuestion, {"value": value}, asked, kind, value, None)
                check_refused(self, InvalidQuestion, {"value": value}, asked, state=least_of(kind), question=value,
                              kind=kind)
                check_refused(self, InvalidQuestion, {"value": value}, is_two_below, kind, value, None)

    def test_states(self):
        for value in ODD_VALUES + [5, [("a", 0)], [("a", True)], [("b", 1), ("a", 1)]]:
            check_refused(self, InvalidState, {"value": value}, asked, NAMES, (JOINED, 1), value)
            check_refused(self, InvalidState, {"value": value}, asked, state=value, question=(SAME, []), kind=NAMES)

    def test_grades(self):
        """NotSingle by the kind, NotEven by the view's; both ahead of great counts and many shapes."""
        for kind in NEITHER_KINDS:
            for function in OF_SHAPES:
                check_refused(self, NotSingle, {}, function, kind, (SAME, least_of(kind)))
        for kind in LISTS_KINDS:
            for function in OF_SHAPES:
                check_refused(self, NotEven, {}, function, kind, (SAME, least_of(kind)))
                check_refused(self, NotEven, {}, function, question=(SAME, least_of(kind)), kind=kind)
        mixed = ("pair", ("table", SPANS), ("pair", GEM, COUNT))
        many = ("pair", ("pair", ("table", SPANS), COUNT), WIDE)
        names = [(name, (1, 1)) for name in "abcdefghi"]
        for function in OF_SHAPES:
            check_refused(self, NotSingle, {}, function, mixed, (FIRST, 4))
            check_refused(self, NotSingle, {}, function, mixed, (("then", SECOND, SECOND), 9))
            check_refused(self, NotEven, {}, function, many, (("then", FIRST, FIRST), 4))
            check_refused(self, NotEven, {}, function, many, (SAME, ((4, 9), names)))

    def test_counts(self):
        rows = [
            (COUNT, SAME, 6),
            (NAMES, AT_A, 6),
            (NAMES, SAME, [("a", 1), ("b", 100)]),
            (NEST, SAME, [("a", [("b", 1), ("c", 6)])]),
            (OPEN, SECOND, ("low", 6)),
            (OPEN, SAME, ([("a", 6)], ("high", [0]))),
            (LATER, SAME, (6, [])),
            (("later", ("row", 9), COUNT), SAME, (8, 6)),
            (("above", FLAG, ("above", COUNT, COUNT)), UPPER, ("high", 6)),
            (("pair", COUNT, ("table", SPANS)), ("both", FIRST, FIRST), (0, 6)),
            # Nothing is ever seen under the name.
            (NAMES, ("then", ("renamed", [("a", "b")]), AT_A), 6),
            # With too many shapes as well.
            (("pair", WIDE, COUNT), SAME, ([(name, (1, 1)) for name in "abcdefghi"], 6)),
        ]
        for kind, view, goal in rows:
            for function in OF_SHAPES:
                check_refused(self, TooMany, COUNTS, function, kind, (view, goal))
                check_refused(self, TooMany, COUNTS, function, question=(view, goal), kind=kind)
        check_call(self, True, goes_through, kind=COUNT, question=(SAME, 5))
        check_call(self, True, goes_through, kind=("row", 20), question=(SAME, 19))
        check_call(self, False, goes_through, kind=("pair", COUNT, ("row", 20)), question=(SAME, (5, 19)))
        check_call(self, 0, decider, kind=("pair", COUNT, ("row", 20)), question=(SAME, (0, 6)))

    def test_shapes_by_names(self):
        """Each name brings 75 shapes of this kind, the further one too."""
        seven = [(name, (1, 1)) for name in "abcdefg"]
        eight = seven + [("h", (1, 1))]
        six = ("some", list("abcdef"))
        check_call(self, False, goes_through, kind=WIDE, question=(SAME, seven))
        check_call(self, 0, decider, kind=WIDE, question=(("some", list("abcdef")), [("g", (1, 1))]))
        rows = [
            (SAME, eight),
            (six, seven[5:] + eight[7:]),
            (six, [("g", (1, 1)), ("h", (1, 1))]),
            (("then", six, ("renamed", [("g", "h")])), []),
            (("then", six, ("both", ("at", "g"), ("at", "h"))), ((0, 0), (0, 0))),
        ]
        for view, goal in rows:
            for function in OF_SHAPES:
                check_refused(self, TooMany, SHAPES, function, WIDE, (view, goal))
            check_call(self, False, is_two_below, kind=WIDE, question=(view, goal), value=None)

    def test_shapes_by_counts(self):
        """Counts go to one more than the greatest one: 48 shapes a name with counts to 6, 35 with counts to 5."""
        kind = ("map", ("later", COUNT, COUNT))
        for greatest, most in [(5, 12), (4, 17), (3, 25), (2, 40)]:
            names = [one + two for one in "ab" for two in "abcdefghijklmnopqrstuvwxyz"]
            goal = [(name, (0, 1)) for name in names[:most - 2]] + [("z", (greatest, 0))]
            self.assertFalse(goes_through(kind, (SAME, goal)))
            goal = [(name, (0, 1)) for name in names[:most - 1]] + [("z", (0, greatest))]
            for function in OF_SHAPES:
                check_refused(self, TooMany, SHAPES, function, kind, (SAME, goal))

    def test_without_counts(self):
        """Where no count is asked for they go to 1."""
        # Behind a count to 1 there are twice the shapes of the second side, and one: 519 and 799 of them.
        kinds = [("pair", ("later", COUNT, ("later", ("row", 20), ("row", many))), FLAG) for many in (13, 20)]
        for goal, place in [(0, None), (1, 0)]:
            check_call(self, place, decider, kind=kinds[0], question=(SECOND, goal))
            for function in OF_SHAPES:
                check_refused(self, TooMany, SHAPES, function, kinds[1], (SECOND, goal))
                check_refused(self, TooMany, SHAPES, function, kinds[0], (("then", FIRST, FIRST), 1))
        check_call(self, True, goes_through, kind=kinds[0], question=(("then", FIRST, FIRST), 0))


if __name__ == "__main__":
    unittest.main()
