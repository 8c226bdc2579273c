import itertools
import random
import unittest

from partsmet.errors import InvalidCopy, InvalidWeb
from partsmet.webs import has_ring, is_joined, is_web, neighbours, ring, told_web
from tests.samples import ODD_VALUES, as_tuples, check_call, check_refused, list_marks, same

ALL_TIES = [(low, high) for low in range(6) for high in range(low + 1, 6)]
FULL = (6, ALL_TIES)
PATH = (3, [(1, 2), (0, 1)])
ROUND = (4, [(0, 1), (0, 2), (1, 2)])
WRONG_WEBS = ODD_VALUES + [
    (), (1,), (1, [], []), [1, []], [3, [(0, 1)]], (0, []), (7, []), (-1, []), (True, []), (2, None), (2, {}), (2, set()),
    (2, ""), ("2", []), (None, []), (2, 1), (2, (0, 1)), (2, [(1, 0)]), (2, [(0, 0)]), (2, [(0, 2)]), (2, [(-1, 0)]),
    (2, [(0, True)]), (2, [(False, 1)]), (2, [[0, 1]]), (2, [(0, 1), (0, 1)]), (2, [(0, 1, 1)]), (2, [(0,)]), (2, [()]),
    (2, [0, 1]), (2, ["01"]), (2, [None]), (2, {(0, 1)}), (2, {(0, 1): 1}), (3, [(0, 1), (1, 0)]), (3, [(0, 1), (2, 1)]),
    (3, [(0, 1), (1, 2), (0, 1)]), (3, [(0, 1), (1, 3)]), (3, [(0, 1), None]), (2, [(0, "1")]), (2, [(0, [1])]),
    (6, [(5, 6)]), (1, [(0, 0)]), (1, [(0, 1)]),
]


def small_webs():
    """All webs of at most four copies, and some of five and six, their ties in any sequence."""
    mixed = random.Random(5)
    for many in range(1, 7):
        ties = [tie for tie in ALL_TIES if tie[1] < many]
        lots = [lot for size in range(len(ties) + 1) for lot in itertools.combinations(ties, size)]
        if many > 4:
            lots = [lots[0], lots[-1]] + mixed.sample(lots, 120)
        for lot in lots:
            yield many, mixed.sample(lot, len(lot))


def pieces(web):
    """The lots of copies that come to one another by ties."""
    found = {copy: {copy} for copy in range(web[0])}
    for low, high in web[1]:
        lot = found[low] | found[high]
        for copy in lot:
            found[copy] = lot
    return {frozenset(lot) for lot in found.values()}


def is_ring(web, value):
    ties = {frozenset(tie) for tie in web[1]}
    steps = {frozenset(step) for step in zip(value, value[1:] + value[:1])}
    return len(value) >= 3 and len(set(value)) == len(value) and steps <= ties


class Webs(unittest.TestCase):
    def test_judged(self):
        for value in [(1, []), (1, ()), (2, []), (2, [(0, 1)]), (2, ((0, 1),)), (6, [(4, 5)]), PATH, ROUND, FULL,
                      (3, [(1, 2), (0, 2)])]:
            check_call(self, True, is_web, value=value)
        for value in WRONG_WEBS:
            check_call(self, False, is_web, value=value)
        for web in small_webs():
            self.assertIs(is_web(web), True)
            self.assertIs(is_web(as_tuples(web)), True)

    def test_told(self):
        check_call(self, (3, [(0, 1), (1, 2)]), told_web, web=PATH)
        check_call(self, (3, [(0, 1), (1, 2)]), told_web, web=as_tuples(PATH))
        check_call(self, (1, []), told_web, web=(1, ()))
        check_call(self, FULL, told_web, web=(6, ALL_TIES[::-1]))
        for web in small_webs():
            check_call(self, (web[0], sorted(web[1])), told_web, web=web)

    def test_neighbours(self):
        check_call(self, [0, 2], neighbours, web=PATH, copy=1)
        check_call(self, [1], neighbours, web=PATH, copy=0)
        check_call(self, [], neighbours, web=ROUND, copy=3)
        check_call(self, [0, 1, 2, 4, 5], neighbours, web=FULL, copy=3)
        check_call(self, [], neighbours, web=(1, []), copy=0)
        for web in small_webs():
            for copy in range(web[0]):
                answer = [each for each in range(6) if (copy, each) in web[1] or (each, copy) in web[1]]
                check_call(self, answer, neighbours, web=web, copy=copy)

    def test_joined(self):
        for web, answer in [(PATH, True), (ROUND, False), (FULL, True), ((1, []), True), ((2, []), False),
                            ((2, [(0, 1)]), True), ((4, [(0, 1), (2, 3)]), False), ((4, [(2, 3), (1, 3), (0, 2)]), True),
                            ((3, [(1, 2)]), False)]:
            check_call(self, answer, is_joined, web=web)
            check_call(self, answer, is_joined, web=as_tuples(web))
        for web in small_webs():
            check_call(self, len(pieces(web)) == 1, is_joined, web=web)

    def test_rings(self):
        for web, answer in [(PATH, False), (ROUND, True), (FULL, True), ((1, []), False), ((2, [(0, 1)]), False),
                            ((6, [(0, 1), (3, 4), (4, 5), (3, 5)]), True),
                            ((6, [(0, 1), (1, 2), (2, 3), (3, 4), (4, 5), (0, 5)]), True),
                            ((6, [(0, 1), (1, 2), (2, 3), (3, 4), (4, 5)]), False), ((4, [(0, 3), (1, 3), (2, 3)]), False)]:
            for passed in (web, as_tuples(web)):
                check_call(self, answer, has_ring, web=passed)
                self.check_ring(web, passed, answer)
        for web in small_webs():
            # A piece without a ring has one tie less than copies.
            answer = len(web[1]) > web[0] - len(pieces(web))
            check_call(self, answer, has_ring, web=web)
            self.check_ring(web, web, answer)

    def check_ring(self, web, passed, answer):
        for found in (ring(passed), ring(web=passed)):
            if not answer:
                self.assertIsNone(found)
                continue
            self.assertTrue(isinstance(found, list) and is_ring(web, found), (web, found))
            self.assertTrue(all(type(copy) is int for copy in found))
            self.assertTrue(same(found, ring(passed)))
            self.assertFalse(set(list_marks(found)) & set(list_marks(ring(passed)) + list_marks(passed)))


class Refused(unittest.TestCase):
    def test_webs(self):
        for value in WRONG_WEBS:
            for function in (told_web, is_joined, has_ring, ring):
                check_refused(self, InvalidWeb, {"value": value}, function, value)
                check_refused(self, InvalidWeb, {"value": value}, function, web=value)
            check_refused(self, InvalidWeb, {"value": value}, neighbours, value, None)
            check_refused(self, InvalidWeb, {"value": value}, neighbours, copy=0, web=value)

    def test_copies(self):
        for web in (PATH, (1, []), FULL):
            for value in ODD_VALUES + [web[0], -1, True, False, "0", [0], (0,), 6]:
                check_refused(self, InvalidCopy, {"value": value}, neighbours, web, value)
                check_refused(self, InvalidCopy, {"value": value}, neighbours, copy=value, web=web)


if __name__ == "__main__":
    unittest.main()
