import unittest

from partsmet.errors import InvalidSort, InvalidValue
from partsmet.texts import is_of_sort, sorts, written
from tests.forms import BOTH, COUNT, forms
from tests.samples import (
    DIAMOND,
    FLAG,
    NAMES,
    ODD_VALUES,
    STEPS,
    WRONG_KINDS,
    as_tuples,
    check_call,
    check_refused,
    kinds_with_states,
)
from tests.test_webs import WRONG_WEBS, small_webs

SORTS = ["kind", "state", "log", "view", "question", "web"]
WRONG_SORTS = ODD_VALUES + ["", "Kind", "kind ", "kinds", "claim", ["kind"], ("kind",), b"kind", 0, "kind\n", "sort"]
# Values of other sorts in the place of what stands behind a kind.
NO_PAIRS = ODD_VALUES + WRONG_KINDS + [
    (), (COUNT,), (COUNT, 1, 1), [COUNT, 1], (COUNT, None), (("row", 2), 2), (NAMES, [("a", 0)]), (NAMES, 1), (1, COUNT),
    (COUNT, -1), (COUNT, True), (STEPS, [0, 1]), (("table", DIAMOND), 5), (BOTH, [[], []]),
]
NO_LOGS = [(COUNT, 1), (COUNT, [0] * 41), (COUNT, [True]), (COUNT, [0, -1]), (COUNT, {0: 0}), (NAMES, [("a", 1)]),
           (FLAG, [2]), [COUNT, []], (COUNT, [], [])]
NO_VIEWS = [(COUNT, ("at", "a")), (COUNT, "same"), (COUNT, ["same"]), (NAMES, ("at", "A")), (NAMES, ("at",)),
            (NAMES, ("some", ["a", "a"])), (NAMES, ("some", list("abcdefg"))), (COUNT, ("same", "a")), [COUNT, ("same",)],
            (("later", COUNT, COUNT), ("second",))]
NO_QUESTIONS = [(COUNT, (("same",), -1)), (COUNT, (("same",), True)), (COUNT, [("same",), 1]), (COUNT, (("same",),)),
                (NAMES, (("at", "a"), [])), (COUNT, (("joined",), 1)), (COUNT, 1), [COUNT, (("same",), 1)]]


class Sorts(unittest.TestCase):
    def test_words(self):
        check_call(self, SORTS, sorts)
        sorts().append("more")
        check_call(self, SORTS, sorts)

    def test_values(self):
        for sort, value, _ in forms():
            for word in SORTS:
                # A tuple of a kind and a list may be both a log and a state of a map or tops, if it is empty.
                if word == sort or sort in ("kind", "web") or word in ("kind", "web"):
                    check_call(self, word == sort, is_of_sort, sort=word, value=value)
                    check_call(self, word == sort, is_of_sort, sort=word, value=as_tuples(value))
        check_call(self, True, is_of_sort, sort="log", value=(NAMES, []))
        check_call(self, True, is_of_sort, sort="state", value=(NAMES, []))
        check_call(self, True, is_of_sort, sort="log", value=(NAMES, [[]]))
        check_call(self, False, is_of_sort, sort="state", value=(NAMES, [[]]))
        check_call(self, False, is_of_sort, sort="log", value=(COUNT, 3))
        check_call(self, False, is_of_sort, sort="view", value=(COUNT, (("same",), 1)))
        check_call(self, False, is_of_sort, sort="question", value=(COUNT, ("same",)))

    def test_all_kinds_and_webs(self):
        for kind, states in kinds_with_states():
            check_call(self, True, is_of_sort, sort="kind", value=kind)
            for state in states[:5]:
                check_call(self, True, is_of_sort, sort="state", value=(kind, state))
                check_call(self, True, is_of_sort, sort="question", value=(kind, (("same",), state)))
            check_call(self, True, is_of_sort, sort="log", value=(kind, states[:5]))
        for web in small_webs():
            self.assertIs(is_of_sort("web", web), True)

    def test_any_values(self):
        for sort, values in self.wrong_values().items():
            for value in values:
                check_call(self, False, is_of_sort, sort=sort, value=value)

    def wrong_values(self):
        return {
            "kind": WRONG_KINDS + [(COUNT, 1), (1, []), "kind count\n"],
            "state": NO_PAIRS + [(kind, 0) for kind in WRONG_KINDS],
            "log": NO_PAIRS + NO_LOGS + [(kind, []) for kind in WRONG_KINDS],
            "view": NO_PAIRS + NO_VIEWS + [(kind, ("same",)) for kind in WRONG_KINDS],
            "question": NO_PAIRS + NO_QUESTIONS + [(kind, (("same",), 0)) for kind in WRONG_KINDS],
            "web": WRONG_WEBS,
        }

    def test_refused(self):
        for value in WRONG_SORTS:
            check_refused(self, InvalidSort, {"value": value}, is_of_sort, value, None)
            check_refused(self, InvalidSort, {"value": value}, is_of_sort, value=COUNT, sort=value)
            check_refused(self, InvalidSort, {"value": value}, written, value, None)
            check_refused(self, InvalidSort, {"value": value}, written, value=COUNT, sort=value)
        for sort, values in self.wrong_values().items():
            for value in values:
                check_refused(self, InvalidValue, {"value": value}, written, sort, value)
                check_refused(self, InvalidValue, {"value": value}, written, value=value, sort=sort)


class Written(unittest.TestCase):
    def test_forms(self):
        for sort, value, text in forms():
            check_call(self, text, written, sort=sort, value=value)
            check_call(self, text, written, sort=sort, value=as_tuples(value))

    def test_as_told(self):
        """Ties in another sequence, or twice."""
        twice = ("tops", 3, [(1, 2), (0, 1), (1, 2)])
        check_call(self, "kind tops 3 0<1,1<2\n", written, sort="kind", value=twice)
        check_call(self, "state map tops 3 0<1,1<2\nis {a:[2]}\n", written, sort="state", value=(("map", twice), [("a", [2])]))
        check_call(self, "log tops 3 0<1,1<2\nentry []\n", written, sort="log", value=(twice, ((),)))
        check_call(self, "view tops 3 0<1,1<2\nis same\n", written, sort="view", value=(twice, ("same",)))
        check_call(self, "question tops 3 0<1,1<2\nsees same\nasks [1]\n", written, sort="question",
                   value=(twice, (("same",), (1,))))
        check_call(self, "web 3 0<2,1<2\n", written, sort="web", value=(3, ((1, 2), (0, 2))))


if __name__ == "__main__":
    unittest.main()
