import unittest

from partsmet.errors import InvalidKind, InvalidLog, InvalidState, NotEven
from partsmet.grades import grade
from partsmet.joins import is_at_most, join, joined
from partsmet.logs import (
    added,
    beginnings,
    forgotten,
    fresh_log,
    is_log_of,
    log_state,
    needless,
    part_log,
)
from partsmet.parts import is_part_list, lacked, part_list
from tests.oracle import least_of
from tests.samples import (
    BAG,
    DIAMOND,
    FLAG,
    LISTS_KINDS,
    NAMES,
    NEITHER_KINDS,
    ODD_VALUES,
    STEPS,
    WRONG_KINDS,
    as_tuples,
    check_call,
    check_refused,
    kinds_with_states,
)

COUNT = ("count",)
GEM = ("table", DIAMOND)
LATER = ("later", ("row", 3), BAG)
TOLD = [[("a", 1)], [("a", 3)], [("a", 2), ("b", 2)]]
OF_ONE = [log_state, beginnings, needless, part_log, fresh_log]
# Kinds with values that are no logs of them.
NO_LOGS = [
    (COUNT, ODD_VALUES + [0, [0] * 41, (0,) * 41, [0, True], [0, -1], [0, "1"], [[0]], {0: 0}, "00",
                          [0] * 40 + [None]]),
    (NAMES, ODD_VALUES + [[("a", 1)], [[("a", 0)]], [[["a", 1]]], [[], None], [[("b", 1), ("a", 1)]], [[]] * 41]),
    (GEM, ODD_VALUES + [4, [5], [1, True], [1, [2]], [0] * 41, {1, 2}]),
]


def logs_of_all_kinds():
    """All sample kinds, each with logs of some of its states: entries twice, needless ones, least ones."""
    for kind, states in kinds_with_states():
        least = least_of(kind)
        yield kind, []
        yield kind, [least]
        yield kind, states[:9]
        yield kind, states[7::-1] + [least]
        yield kind, states[:3] + [least, least] + states[1:4] + states[:2]
        yield kind, states[::-3][:6] * 2


class States(unittest.TestCase):
    def test_told(self):
        check_call(self, [("a", 3), ("b", 2)], log_state, kind=NAMES, log=TOLD)
        check_call(self, 4, log_state, kind=GEM, log=(1, 2))
        check_call(self, (2, [("a", 1), ("b", 1)]), log_state, kind=LATER,
                   log=[(2, [("b", 1)]), (1, [("c", 1)]), (2, (("a", 1),))])
        check_call(self, [[], [("a", 1)], [("a", 3)], [("a", 3), ("b", 2)]], beginnings, kind=NAMES, log=TOLD)
        check_call(self, [0, 2, 2, 4], beginnings, kind=GEM, log=(2, 0, 1))
        check_call(self, [[], [0], [1], [1, 2], [1, 2]], beginnings, kind=STEPS, log=[[0], [1], (2,), [0, 2]])
        check_call(self, [[("a", 3)], [("b", 2)]], part_log, kind=NAMES, log=TOLD)
        check_call(self, [1, 2], part_log, kind=GEM, log=[3, 2])
        check_call(self, [(2, [("a", 1)]), (2, [("b", 1)])], part_log, kind=LATER,
                   log=[(2, [("b", 1)]), (2, [("a", 1)])])

    def test_empty(self):
        for kind, _ in kinds_with_states():
            least = least_of(kind)
            for log in ([], ()):
                check_call(self, least, log_state, kind=kind, log=log)
                check_call(self, [least], beginnings, kind=kind, log=log)
                check_call(self, [], needless, kind=kind, log=log)
                check_call(self, [], part_log, kind=kind, log=log)
                check_call(self, [], forgotten, kind=kind, log=log, state=least)
                check_call(self, True, is_log_of, kind=kind, state=least, value=log)

    def test_all_kinds(self):
        for kind, log in logs_of_all_kinds():
            state = joined(kind, log)
            steps = [joined(kind, log[:many]) for many in range(len(log) + 1)]
            for passed in ((kind, log), (as_tuples(kind), as_tuples(log))):
                named = {"kind": passed[0], "log": passed[1]}
                check_call(self, state, log_state, **named)
                check_call(self, steps, beginnings, **named)
                check_call(self, part_list(kind, state), part_log, **named)

    def test_one_list_twice(self):
        entry = [("a", 1)]
        check_call(self, [[], [("a", 1)], [("a", 1)]], beginnings, kind=NAMES, log=[entry, entry])
        check_call(self, [[("a", 1)], [("a", 1)]], forgotten, kind=NAMES, log=[entry, entry], state=[])
        check_call(self, [[("a", 1)], [("a", 1)]], added, kind=NAMES, log=[entry, entry], other=[entry])
        pair = ("pair", STEPS, STEPS)
        points = [1]
        check_call(self, ([1], [1]), log_state, kind=pair, log=[(points, points)])
        check_call(self, [([1], [1])], fresh_log, kind=pair, log=[(points, points)])


class Needless(unittest.TestCase):
    def test_told(self):
        check_call(self, [0], needless, kind=NAMES, log=TOLD)
        check_call(self, [0, 1], needless, kind=NAMES, log=[[("a", 1)], [("a", 1)]])
        check_call(self, [0, 1, 2], needless, kind=GEM, log=[1, 2, 3])
        check_call(self, [0, 1, 2, 3], needless, kind=GEM, log=[4, 0, 2, 3])
        check_call(self, [1, 2], needless, kind=GEM, log=[4, 0, 2])
        check_call(self, [0], needless, kind=COUNT, log=[0])
        check_call(self, [0, 1, 3], needless, kind=COUNT, log=[3, 0, 5, 4])
        check_call(self, [], needless, kind=COUNT, log=[1])

    def test_by_itself(self):
        for kind, log in logs_of_all_kinds():
            places = [at for at in range(len(log)) if is_at_most(kind, log[at], joined(kind, log[:at] + log[at + 1:]))]
            check_call(self, places, needless, kind=kind, log=log)
            check_call(self, places, needless, kind=as_tuples(kind), log=as_tuples(log))
            if len(places) == 1:
                self.assertEqual(joined(kind, log), joined(kind, log[:places[0]] + log[places[0] + 1:]))


class Fresh(unittest.TestCase):
    def test_told(self):
        check_call(self, [[("a", 1)], [("a", 3)], [("b", 2)]], fresh_log, kind=NAMES, log=TOLD)
        check_call(self, [2, 5], fresh_log, kind=COUNT, log=[0, 2, 1, 5, 5, 4])
        check_call(self, [(1, [("a", 1)]), (1, [("b", 1)]), (2, [])], fresh_log, kind=LATER,
                   log=[(1, [("a", 1)]), (1, (("a", 1), ("b", 1))), (0, [("c", 1)]), (2, [])])
        check_call(self, [], fresh_log, kind=LATER, log=[(0, []), (0, ())])

    def test_beginnings(self):
        """A log and its fresh entries have the same beginnings, but for repeated ones."""
        for kind, log in logs_of_all_kinds():
            if grade(kind) != "differences":
                continue
            answer, ahead = [], least_of(kind)
            for entry in log:
                fresh = joined(kind, lacked(kind, entry, ahead))
                answer += [fresh] if fresh != least_of(kind) else []
                ahead = join(kind, ahead, entry)
            check_call(self, answer, fresh_log, kind=kind, log=log)
            check_call(self, answer, fresh_log, kind=as_tuples(kind), log=as_tuples(log))
            steps = beginnings(kind, log)
            unlike = [step for at, step in enumerate(steps) if at == 0 or step != steps[at - 1]]
            self.assertEqual(beginnings(kind, answer), unlike)

    def test_added_told(self):
        check_call(self, [[("a", 3)], [("b", 2)]], added, kind=NAMES, log=[[("a", 3)]], other=TOLD)
        check_call(self, TOLD, added, kind=NAMES, log=TOLD, other=[[("a", 3)], [], [("b", 2)]])
        check_call(self, [[], [("a", 2)], [("a", 1)], [("b", 1)], [("b", 2)]], added, kind=NAMES,
                   log=((), (("a", 2),), [("a", 1)]), other=([("a", 1), ("b", 1)], [("b", 1)], [("b", 2)]))
        check_call(self, [(1, []), (1, [("a", 1)]), (2, [("a", 1)])], added, kind=LATER,
                   log=[(1, [])], other=[(0, [("c", 1)]), (1, [("a", 1)]), (2, [("a", 1)])])
        check_call(self, [[("a", 1)]], added, kind=NAMES, log=[], other=[[("a", 1)], [("a", 1)]])

    def test_added(self):
        """One by one over all that stands ahead then; of an empty log the fresh entries are what is added."""
        for kind, log in logs_of_all_kinds():
            if grade(kind) != "differences":
                continue
            check_call(self, fresh_log(kind, log), added, kind=kind, log=[], other=log)
            check_call(self, log, added, kind=kind, log=log, other=log)
            check_call(self, log, added, kind=kind, log=as_tuples(log), other=as_tuples(log))
            first, second = log[:4], log[2:][::-1]
            answer = list(first)
            for entry in second:
                fresh = joined(kind, lacked(kind, entry, joined(kind, answer)))
                answer += [fresh] if fresh != least_of(kind) else []
            check_call(self, answer, added, kind=kind, log=first, other=second)
            self.assertEqual(joined(kind, answer), joined(kind, first + second))


class Forgotten(unittest.TestCase):
    def test_told(self):
        check_call(self, [[("a", 3)], [("a", 2), ("b", 2)]], forgotten, kind=NAMES, log=TOLD, state=[("a", 2)])
        check_call(self, [], forgotten, kind=NAMES, log=TOLD, state=(("a", 3), ("b", 2)))
        check_call(self, [2, 4], forgotten, kind=GEM, log=(1, 2, 0, 4), state=1)
        check_call(self, [[2], [2]], forgotten, kind=STEPS, log=[(0,), (2,), [1], [2]], state=[1])

    def test_all_kinds(self):
        for kind, log in logs_of_all_kinds():
            for state in log[:4] + [least_of(kind)]:
                answer = [entry for entry in log if not is_at_most(kind, entry, state)]
                check_call(self, answer, forgotten, kind=kind, log=log, state=state)
                check_call(self, answer, forgotten, kind=as_tuples(kind), log=as_tuples(log), state=as_tuples(state))
                if grade(kind) != "neither":
                    for part in lacked(kind, joined(kind, log), joined(kind, answer)):
                        self.assertTrue(is_at_most(kind, part, state))


class Judged(unittest.TestCase):
    def test_told(self):
        check_call(self, False, is_log_of, kind=NAMES, state=[("a", 3)], value=TOLD)
        check_call(self, True, is_log_of, kind=NAMES, state=[("a", 3), ("b", 2)], value=TOLD)
        check_call(self, True, is_log_of, kind=NAMES, state=(("a", 3), ("b", 2)), value=as_tuples(TOLD))
        check_call(self, True, is_log_of, kind=GEM, state=4, value=[1, 0, 1, 3])
        check_call(self, False, is_log_of, kind=GEM, state=4, value=[1, 0, 1])

    def test_all_kinds(self):
        for kind, log in logs_of_all_kinds():
            state = joined(kind, log)
            check_call(self, True, is_log_of, kind=kind, state=state, value=log)
            check_call(self, True, is_log_of, kind=kind, state=state, value=part_list(kind, state))
            check_call(self, state == least_of(kind), is_log_of, kind=kind, state=state, value=[])
            self.assertTrue(is_part_list(kind, state, part_log(kind, log)))

    def test_any_values(self):
        for kind, values in NO_LOGS:
            for value in values:
                for state in (least_of(kind), joined(kind, [])):
                    check_call(self, False, is_log_of, kind=kind, state=state, value=value)


class Bounds(unittest.TestCase):
    def test_forty(self):
        rising = [[("a", many)] for many in range(1, 41)]
        check_call(self, [("a", 40)], log_state, kind=NAMES, log=rising)
        check_call(self, [[]] + rising, beginnings, kind=NAMES, log=rising)
        check_call(self, list(range(39)), needless, kind=NAMES, log=rising)
        check_call(self, [[("a", 40)]], part_log, kind=NAMES, log=rising)
        check_call(self, rising, fresh_log, kind=NAMES, log=rising)
        check_call(self, rising[-1:], forgotten, kind=NAMES, log=rising, state=[("a", 39)])
        check_call(self, True, is_log_of, kind=NAMES, state=[("a", 40)], value=rising)
        others = [[("b", many)] for many in range(1, 41)]
        check_call(self, rising + others, added, kind=NAMES, log=rising, other=others)

    def test_forty_one(self):
        rising = list(range(1, 42))
        for function in OF_ONE:
            check_refused(self, InvalidLog, {"value": rising}, function, COUNT, rising)
        check_refused(self, InvalidLog, {"value": rising}, forgotten, COUNT, rising, 0)
        check_refused(self, InvalidLog, {"value": rising}, added, COUNT, rising, [])
        check_refused(self, InvalidLog, {"value": rising}, added, COUNT, [], rising)
        check_call(self, False, is_log_of, kind=COUNT, state=41, value=rising)


class Refused(unittest.TestCase):
    def test_kinds(self):
        for value in WRONG_KINDS:
            for function in OF_ONE:
                check_refused(self, InvalidKind, {"value": value}, function, value, None)
                check_refused(self, InvalidKind, {"value": value}, function, log=[], kind=value)
            for function in (added, forgotten, is_log_of):
                check_refused(self, InvalidKind, {"value": value}, function, value, None, None)
            check_refused(self, InvalidKind, {"value": value}, added, other=[], log=[], kind=value)
            check_refused(self, InvalidKind, {"value": value}, forgotten, state=0, log=[], kind=value)
            check_refused(self, InvalidKind, {"value": value}, is_log_of, value=[], state=0, kind=value)

    def test_logs(self):
        """Logs ahead of other values, and of what the kind is like."""
        for kind, values in NO_LOGS:
            for value in values:
                for function in OF_ONE:
                    check_refused(self, InvalidLog, {"value": value}, function, kind, value)
                    check_refused(self, InvalidLog, {"value": value}, function, log=value, kind=kind)
                check_refused(self, InvalidLog, {"value": value}, added, kind, value, None)
                check_refused(self, InvalidLog, {"value": value}, added, kind, [], value)
                check_refused(self, InvalidLog, {"value": value}, added, other=[], log=value, kind=kind)
                check_refused(self, InvalidLog, {"value": value}, forgotten, kind, value, None)
                check_refused(self, InvalidLog, {"value": value}, forgotten, state=least_of(kind), log=value, kind=kind)

    def test_states(self):
        for value in ODD_VALUES + [5, [("a", True)], [("a", 0)], [["a", 1]], [("b", 1), ("a", 1)]]:
            check_refused(self, InvalidState, {"value": value}, forgotten, NAMES, TOLD, value)
            check_refused(self, InvalidState, {"value": value}, forgotten, state=value, log=[], kind=NAMES)
            check_refused(self, InvalidState, {"value": value}, is_log_of, NAMES, value, None)
            check_refused(self, InvalidState, {"value": value}, is_log_of, value=[], state=value, kind=NAMES)

    def test_not_even(self):
        for kind in LISTS_KINDS + NEITHER_KINDS:
            for log in ([], [least_of(kind)]):
                check_refused(self, NotEven, {}, fresh_log, kind, log)
                check_refused(self, NotEven, {}, fresh_log, log=log, kind=kind)
                check_refused(self, NotEven, {}, added, kind, log, [])
                check_refused(self, NotEven, {}, added, other=log, log=[], kind=kind)
                check_call(self, [], forgotten, kind=kind, log=log, state=least_of(kind))
        later = ("later", NAMES, FLAG)
        check_call(self, ([("a", 1), ("b", 1)], 0), log_state, kind=later, log=[([("a", 1)], 1), ([("b", 1)], 1)])


if __name__ == "__main__":
    unittest.main()
