import random
import unittest

from partsmet.differences import difference
from partsmet.errors import InvalidKind, InvalidMany, InvalidRun, InvalidWeb, InvalidWord, NoRing, NotEven
from partsmet.joins import is_at_most, join, joined
from partsmet.parts import part_list
from partsmet.runs import crossings, grown, is_fresh, played, round_run, settled
from partsmet.webs import has_ring, is_joined
from tests.oracle import least_of, states_of
from tests.samples import (
    BAG,
    CUBE,
    DIAMOND,
    FLAG,
    LISTS_KINDS,
    NAMES,
    NEITHER_KINDS,
    ODD_VALUES,
    SQUARE,
    STEPS,
    WRONG_KINDS,
    as_tuples,
    check_call,
    check_refused,
    list_marks,
    same,
)
from tests.test_webs import FULL, PATH, ROUND, WRONG_WEBS, small_webs

COUNT = ("count",)
WAYS = ["whole", "since", "back", "known"]
WRONG_WORDS = ODD_VALUES + ["Known", "known ", "lists", "same", ["known"], ("back",), b"back", 0]
STAR = (4, [(0, 3), (1, 3), (2, 3)])
TWO = (2, [(0, 1)])
RING = (6, [(0, 1), (1, 2), (2, 3), (3, 4), (4, 5), (0, 5)])
WEBS = [(1, []), TWO, PATH, ROUND, STAR, RING, FULL, (3, [(0, 1), (0, 2), (1, 2)]), (5, [(0, 1), (2, 3), (3, 4)]),
        (6, [(0, 1), (1, 2), (1, 3), (3, 4), (3, 5)])]
# Kinds with least differences, each with states to grow.
KINDS = [
    (COUNT, [0, 1, 2, 5, 7]),
    (BAG, [[], [("a", 1)], [("b", 1)], [("a", 1), ("c", 1)], [("d", 1)], [("e", 1), ("f", 1)]]),
    (NAMES, [[("a", 1)], [("a", 3)], [("b", 2)], [("a", 2), ("b", 1)], [("c", 4)]]),
    (STEPS, states_of(STEPS)),
    (("table", CUBE), list(range(8))),
    (("pair", NAMES, STEPS), [([], [1]), ([("a", 1)], []), ([("b", 2)], [0]), ([("a", 2)], [0, 2])]),
    (("later", ("row", 3), BAG), [(0, [("a", 1)]), (0, [("b", 1)]), (1, []), (1, [("a", 1)]), (2, [("b", 1)])]),
    (("above", BAG, COUNT), [("low", [("a", 1)]), ("low", [("b", 1)]), ("high", 0), ("high", 2), ("high", 5)]),
    (("later", ("tops", 2, [(0, 1)]), BAG), [([], [("a", 1), ("b", 1)]), ([0], [("b", 1), ("c", 1)]), ([0], []), ([1], [])]),
    (("row", 1), [0]),
]
TOLD = [("grow", 0, [("a", 2)]), ("send", 0, 1), ("hear", 0), ("grow", 1, [("b", 1)]), ("send", 1, 2), ("hear", 1)]
AB, A, B = [("a", 2), ("b", 1)], [("a", 2)], [("b", 1)]
# Values that are no runs of maps of counts on the path of three copies.
NO_RUNS = ODD_VALUES + [
    [("grow", 0, A), None], [("grow", 0)], [("grow", 0, A, 0)], [("grow", 3, A)], [("grow", -1, A)], [("grow", True, A)],
    [("grow", "0", A)], [("grow", 0, [("a", 0)])], [("grow", 0, 2)], [("grow", 0, [("b", 1), ("a", 1)])],
    [["grow", 0, A]], [("Grow", 0, A)], [("send", 0, 2)], [("send", 0, 0)], [("send", 0, 3)], [("send", 3, 0)],
    [("send", False, 1)], [("send", 0, True)], [("send", 0)], [("send", 0, 1, 0)], [("send", (0, 1))], [("hear", 0)],
    [("hear", 0), ("send", 0, 1)], [("send", 0, 1), ("hear", 1)], [("send", 0, 1), ("hear", -1)],
    [("send", 0, 1), ("hear", False)], [("send", 0, 1), ("hear", "0")], [("send", 0, 1), ("hear", 0, 0)],
    [("send", 0, 1), ("hear",)], [("send", 0, 1), ("hear", None)], [("send", 0, 1), ["hear", 0]], [("send", 0, -1)],
    [("send", "0", 1)], [("send", 0, None)], [("send", 0, [1])], [("send", [0], 1)], [("hear", [0])], ("grow", 0, A),
    [(0, 0, A)], [(None, 0, 1)], [(["grow"], 0, A)], [()], [("grow",)], [("send",)], {0: ("send", 0, 1)}, {("send", 0, 1)},
    "send", [("send", 0, 1)] * 49, [("tell", 0, A)],
    [("grow", 0, A), ("hear", 0)], [("send", 0, 1), ("hear", 0), ("hear", 1)], [("send", 0, 1), ("grow", 0, A), ("hear", 1)],
]


class Play:
    """The copies, heaps and letters of a run, by the words of the document, with join and difference alone."""

    def __init__(self, kind, web, word, run):
        self.kind, self.word = kind, word
        self.near = {copy: [each for each in range(6) if (copy, each) in web[1] or (each, copy) in web[1]]
                     for copy in range(web[0])}
        self.states = [least_of(kind)] * web[0]
        self.heaps = {(copy, each): least_of(kind) for copy in self.near for each in self.near[copy]}
        self.letters, self.heard = [], set()
        for event in run:
            getattr(self, event[0])(*event[1:])

    def grow(self, copy, state):
        ahead = self.states[copy]
        if not is_at_most(self.kind, state, ahead):
            self.states[copy] = join(self.kind, ahead, state)
            new = self.states[copy] if self.word == "whole" else difference(self.kind, state, ahead)
            self.put(copy, new, None)

    def put(self, copy, new, without):
        for each in self.near[copy]:
            if each != without:
                self.heaps[copy, each] = join(self.kind, self.heaps[copy, each], new)

    def send(self, copy, goal):
        self.letters.append((copy, goal, self.heaps[copy, goal]))
        self.heaps[copy, goal] = least_of(self.kind)

    def hear(self, number):
        self.heard.add(number)
        source, copy, content = self.letters[number]
        ahead = self.states[copy]
        if not is_at_most(self.kind, content, ahead):
            self.states[copy] = join(self.kind, ahead, content)
            if self.word == "whole":
                self.put(copy, self.states[copy], None)
            elif self.word == "since":
                self.put(copy, content, None)
            elif self.word == "back":
                self.put(copy, content, source)
            else:
                self.put(copy, difference(self.kind, content, ahead), source)

    def full(self):
        return sorted((*tie, heap) for tie, heap in self.heaps.items() if heap != least_of(self.kind))

    def told(self):
        return (self.states, self.letters, self.full())

    def is_settled(self):
        return not self.full() and len(self.heard) == len(self.letters)

    def crossings(self):
        found = [(*letter[:2], part) for letter in self.letters for part in part_list(self.kind, letter[2])]
        return sorted((*each, found.count(each)) for at, each in enumerate(found) if each not in found[:at])


def random_run(mixed, states, web, many):
    """Events of all kinds: letters heard late, twice, out of sequence, or never."""
    run, sent = [], 0
    for _ in range(many):
        word = mixed.choice(["grow", "send", "send", "hear", "hear"])
        if word == "send" and web[1]:
            run.append(("send", *mixed.sample(mixed.choice(web[1]), 2)))
            sent += 1
        elif word == "hear" and sent:
            run.append(("hear", mixed.randrange(sent)))
        else:
            run.append(("grow", mixed.randrange(web[0]), mixed.choice(states)))
    return run


def all_runs():
    mixed = random.Random(81)
    for kind, states in KINDS:
        for web in WEBS:
            for many in (0, 1, 5, 12, 25, 48):
                yield kind, web, random_run(mixed, states, web, many)


def settled_run(kind, web, word, run):
    """The run with all letters heard, and all heaps sent, until there are none."""
    run = list(run)
    while not Play(kind, web, word, run).is_settled():
        play = Play(kind, web, word, run)
        run += [("hear", number) for number in range(len(play.letters)) if number not in play.heard]
        run += [("send", copy, each) for copy, each, _ in play.full()]
    return run


class Played(unittest.TestCase):
    def test_told(self):
        rows = [
            ("known", ([A, AB, AB], [(0, 1, A), (1, 2, AB)], [(1, 0, B)])),
            ("back", ([A, AB, AB], [(0, 1, A), (1, 2, AB)], [(1, 0, B)])),
            ("since", ([A, AB, AB], [(0, 1, A), (1, 2, AB)], [(1, 0, AB), (2, 1, AB)])),
            ("whole", ([A, AB, AB], [(0, 1, A), (1, 2, AB)], [(1, 0, AB), (2, 1, AB)])),
        ]
        for word, answer in rows:
            check_call(self, answer, played, kind=NAMES, web=PATH, word=word, run=TOLD)
            check_call(self, answer, played, kind=as_tuples(NAMES), web=as_tuples(PATH), word=word, run=as_tuples(TOLD))

    def test_four_ways(self):
        """What stands on the heaps behind a letter that holds something known and something new."""
        web = (3, [(0, 1), (1, 2)])
        run = [("grow", 1, A), ("send", 1, 2), ("send", 1, 0), ("grow", 0, AB), ("grow", 0, [("c", 1)]), ("send", 0, 1),
               ("hear", 2)]
        whole = [("a", 2), ("b", 1), ("c", 1)]
        late = [("b", 1), ("c", 1)]
        rows = [
            ("whole", whole, [(1, 0, whole), (1, 2, whole)]),
            ("since", whole, [(1, 0, whole), (1, 2, whole)]),
            ("back", whole, [(1, 2, whole)]),
            ("known", whole, [(1, 2, late)]),
        ]
        for word, content, heaps in rows:
            answer = ([whole, whole, []], [(1, 2, A), (1, 0, A), (0, 1, content)], heaps)
            check_call(self, answer, played, kind=NAMES, web=web, word=word, run=run)
        # By "whole" the new state is sent, not only what was grown.
        grows = [("grow", 0, A), ("send", 0, 1), ("grow", 0, [("a", 1), ("b", 1)])]
        for word, heap in [("whole", AB), ("since", B), ("back", B), ("known", B)]:
            check_call(self, ([AB, [], []], [(0, 1, A)], [(0, 1, heap)]), played, kind=NAMES, web=web, word=word,
                       run=grows)

    def test_nothing_new(self):
        """Growing what is there, and hearing what is known, does nothing; an empty letter is one."""
        for word in WAYS:
            run = [("grow", 0, 3), ("send", 0, 1), ("grow", 0, 2), ("grow", 0, 3), ("grow", 0, 0), ("send", 0, 1)]
            check_call(self, ([3, 0], [(0, 1, 3), (0, 1, 0)], []), played, kind=COUNT, web=TWO, word=word, run=run)
            run = [("grow", 1, 5), ("send", 1, 0), ("grow", 0, 4), ("send", 0, 1), ("hear", 1), ("hear", 1)]
            check_call(self, ([4, 5], [(1, 0, 5), (0, 1, 4)], []), played, kind=COUNT, web=TWO, word=word, run=run)
            check_call(self, ([0, 0, 0], [], []), played, kind=COUNT, web=PATH, word=word, run=[])
            check_call(self, ([7], [], []), played, kind=COUNT, web=(1, ()), word=word, run=(("grow", 0, 7),))
            check_call(self, ([0, 0], [(1, 0, 0)], []), played, kind=COUNT, web=TWO, word=word,
                       run=[("send", 1, 0), ("hear", 0)])

    def test_by_plain_play(self):
        for kind, web, run in all_runs():
            for word in WAYS:
                play = Play(kind, web, word, run)
                found = played(kind, web, word, run)
                self.assertTrue(same(found, play.told()), (kind, web, word, run))
                self.assertEqual(len(list_marks(found)), len(set(list_marks(found))))
                self.assertIs(settled(kind, web, word, run), play.is_settled())
                self.assertTrue(same(crossings(kind, web, word, run), play.crossings()), (kind, web, word, run))

    def test_passed_in_other_ways(self):
        for kind, web, run in list(all_runs())[::7]:
            for word in WAYS:
                play = Play(kind, web, word, run)
                turned = (web[0], web[1][::-1])
                for passed in ((kind, turned), (as_tuples(kind), as_tuples(web))):
                    named = {"kind": passed[0], "web": passed[1], "word": word, "run": as_tuples(run)}
                    check_call(self, play.told(), played, **named)
                    check_call(self, play.is_settled(), settled, **named)
                    check_call(self, play.crossings(), crossings, **named)


class Settled(unittest.TestCase):
    def test_told(self):
        for word, answer in [("known", True), ("back", True), ("since", False), ("whole", False)]:
            check_call(self, False, settled, kind=NAMES, web=PATH, word=word, run=TOLD)
            run = TOLD + [("send", 1, 0), ("hear", 2)]
            check_call(self, answer, settled, kind=NAMES, web=PATH, word=word, run=run)
            check_call(self, False, settled, kind=NAMES, web=PATH, word=word, run=run[:-1])
            check_call(self, True, settled, kind=NAMES, web=PATH, word=word, run=[])
            check_call(self, False, settled, kind=COUNT, web=TWO, word=word, run=[("send", 0, 1)])
            check_call(self, False, settled, kind=COUNT, web=TWO, word=word,
                       run=[("send", 0, 1), ("send", 0, 1), ("hear", 1), ("hear", 1)])
            check_call(self, True, settled, kind=COUNT, web=TWO, word=word,
                       run=[("send", 0, 1), ("send", 1, 0), ("hear", 1), ("hear", 0)])
            check_call(self, True, settled, kind=COUNT, web=(2, []), word=word, run=[("grow", 0, 4)])

    def test_all_copies_one(self):
        """On a joined web a settled run leaves all copies with the join of all that was grown."""
        mixed, found = random.Random(85), 0
        for kind, states in KINDS:
            for web in WEBS:
                for word in WAYS:
                    run = settled_run(kind, web, word, random_run(mixed, states, web, 6))
                    if len(run) > 48:
                        continue
                    found += 1
                    self.assertIs(settled(kind, web, word, run), True)
                    if is_joined(web):
                        self.assertEqual(played(kind, web, word, run)[0], [grown(kind, run)] * web[0])
        self.assertGreater(found, 150)


class Grown(unittest.TestCase):
    def test_told(self):
        check_call(self, AB, grown, kind=NAMES, run=TOLD)
        check_call(self, AB, grown, kind=as_tuples(NAMES), run=as_tuples(TOLD))
        check_call(self, [], grown, kind=NAMES, run=[])
        check_call(self, 7, grown, kind=COUNT, run=[("grow", 5, 3), ("grow", 0, 7), ("send", 5, 2), ("grow", 4, 1)])
        for kind, _, run in all_runs():
            check_call(self, joined(kind, [event[2] for event in run if event[0] == "grow"][:40]), grown, kind=kind,
                       run=run)

    def test_fresh(self):
        rows = [
            (NAMES, [], True),
            (NAMES, TOLD, True),
            (COUNT, [("grow", 0, 3), ("grow", 1, 5)], True),
            (COUNT, [("grow", 0, 3), ("grow", 1, 3)], False),
            (COUNT, [("grow", 0, 3), ("grow", 5, 2)], False),
            (COUNT, [("grow", 0, 0), ("grow", 1, 0)], True),
            (BAG, [("grow", 0, [("a", 1)]), ("grow", 1, [("a", 1), ("b", 1)])], False),
            (BAG, [("grow", 0, [("a", 1)]), ("grow", 1, [("b", 1)]), ("grow", 1, [("c", 1)])], True),
            (BAG, [("grow", 0, [("a", 1), ("b", 1)]), ("grow", 1, [("b", 1)])], False),
            (STEPS, [("grow", 0, [0]), ("grow", 0, [1])], True),
            (STEPS, [("grow", 0, [1]), ("grow", 0, [0, 2])], False),
            (("later", ("row", 2), BAG), [("grow", 0, (0, [("a", 1)])), ("grow", 1, (1, [("a", 1)]))], True),
            (("later", ("row", 2), BAG), [("grow", 0, (1, [])), ("grow", 1, (0, [("a", 1)]))], False),
        ]
        for kind, run, answer in rows:
            check_call(self, answer, is_fresh, kind=kind, run=run)
            check_call(self, answer, is_fresh, kind=as_tuples(kind), run=as_tuples(run))
        answers = []
        for kind, _, run in all_runs():
            states = [event[2] for event in run if event[0] == "grow"]
            answer = not any(is_at_most(kind, part, joined(kind, states[:at][-40:]))
                             for at, state in enumerate(states) for part in part_list(kind, state))
            if len(states) <= 40:
                check_call(self, answer, is_fresh, kind=kind, run=run)
                answers.append(answer)
        self.assertEqual(set(answers), {True, False})


class Crossings(unittest.TestCase):
    def test_told(self):
        for word in WAYS:
            answer = [(0, 1, A, 1), (1, 2, A, 1), (1, 2, B, 1)]
            check_call(self, answer, crossings, kind=NAMES, web=PATH, word=word, run=TOLD)
            check_call(self, [], crossings, kind=NAMES, web=PATH, word=word, run=[("send", 0, 1), ("hear", 0)])
        run = [("grow", 0, 1), ("send", 0, 1), ("hear", 0), ("grow", 1, 2), ("send", 1, 0), ("send", 0, 1), ("hear", 1),
               ("send", 0, 1), ("hear", 3), ("send", 1, 0)]
        rows = [
            ("whole", [(0, 1, 1, 1), (0, 1, 2, 1), (1, 0, 2, 1)]),
            ("known", [(0, 1, 1, 1), (1, 0, 2, 1)]),
        ]
        for word, answer in rows:
            check_call(self, answer, crossings, kind=COUNT, web=TWO, word=word, run=run)
        run = [("grow", 0, [("a", 1)]), ("send", 0, 1), ("grow", 0, [("b", 1)]), ("send", 0, 1)]
        a, b = [("a", 1)], [("b", 1)]
        check_call(self, [(0, 1, a, 2), (0, 1, b, 1)], crossings, kind=BAG, web=TWO, word="whole", run=run)
        check_call(self, [(0, 1, a, 1), (0, 1, b, 1)], crossings, kind=BAG, web=TWO, word="since", run=run)

    def test_known_once(self):
        for kind, web, run in all_runs():
            self.assertTrue(all(row[3] == 1 for row in crossings(kind, web, "known", run)))

    def test_back_once_without_rings(self):
        mixed = random.Random(87)
        for web in [web for web in WEBS if not has_ring(web)]:
            for _ in range(8):
                run = random_run(mixed, [[]], web, 40)
                run = [("grow", event[1], [("abcdefghijklmnopqrstuvwxyz"[at % 26] * (at // 26 + 1), 1)])
                       if event[0] == "grow" else event for at, event in enumerate(run)]
                self.assertTrue(is_fresh(BAG, run))
                self.assertTrue(all(row[3] == 1 for row in crossings(BAG, web, "back", run)))


class Rounds(unittest.TestCase):
    def check_round(self, web, many):
        run = round_run(web, many)
        self.assertTrue(isinstance(run, list) and len(run) <= 48)
        self.assertTrue(same(run, round_run(many=many, web=web)))
        self.assertFalse(set(list_marks(run)) & set(list_marks(round_run(web, many))))
        self.assertEqual(len(list_marks(run)), len(set(list_marks(run))))
        self.assertIs(is_fresh(BAG, run), True)
        self.assertGreater(max(row[3] for row in crossings(BAG, web, "back", run)), many)
        self.assertEqual({row[3] for row in crossings(BAG, web, "known", run)}, {1})

    def test_all_webs(self):
        found = 0
        for web in small_webs():
            if has_ring(web):
                found += 1
                for many in range(4):
                    self.check_round(web, many)
            else:
                for many in (0, 3):
                    check_refused(self, NoRing, {}, round_run, web, many)
                    check_refused(self, NoRing, {}, round_run, many=many, web=as_tuples(web))
        self.assertGreater(found, 100)

    def test_edges(self):
        for web in (RING, FULL, ROUND, as_tuples(RING), (6, [(0, 1), (3, 4), (4, 5), (3, 5)]),
                    (6, [(0, 5), (0, 3), (2, 3), (1, 2), (1, 4), (4, 5)])):
            for many in range(4):
                self.check_round(web, many)

    def test_refused(self):
        for value in WRONG_WEBS:
            check_refused(self, InvalidWeb, {"value": value}, round_run, value, None)
            check_refused(self, InvalidWeb, {"value": value}, round_run, many=1, web=value)
        for web in (RING, PATH):
            for value in ODD_VALUES + [4, -1, True, False, "1", [1], (1,)]:
                check_refused(self, InvalidMany, {"value": value}, round_run, web, value)
                check_refused(self, InvalidMany, {"value": value}, round_run, many=value, web=web)


class Bounds(unittest.TestCase):
    def test_48_and_49(self):
        run = [("grow", 0, many) for many in range(1, 47)] + [("send", 0, 1), ("hear", 0)]
        for word, heaps in [("whole", [(1, 0, 46)]), ("since", [(1, 0, 46)]), ("back", []), ("known", [])]:
            check_call(self, ([46, 46], [(0, 1, 46)], heaps), played, kind=COUNT, web=TWO, word=word, run=run)
            self.refused(word, [("grow", 1, 0)] + run)
        check_call(self, 46, grown, kind=COUNT, run=run)
        check_call(self, True, is_fresh, kind=COUNT, run=run)

    def refused(self, word, run):
        for function in (played, settled, crossings):
            check_refused(self, InvalidRun, {"value": run}, function, COUNT, TWO, word, run)
        for function in (grown, is_fresh):
            check_refused(self, InvalidRun, {"value": run}, function, COUNT, run)


class Refused(unittest.TestCase):
    def test_kinds(self):
        for value in WRONG_KINDS:
            for function in (played, settled, crossings):
                check_refused(self, InvalidKind, {"value": value}, function, value, None, None, None)
                check_refused(self, InvalidKind, {"value": value}, function, run=[], word="back", web=TWO, kind=value)
            for function in (grown, is_fresh):
                check_refused(self, InvalidKind, {"value": value}, function, value, None)
                check_refused(self, InvalidKind, {"value": value}, function, run=[], kind=value)

    def test_webs(self):
        for value in WRONG_WEBS:
            for kind in (NAMES, ("table", DIAMOND)):
                for function in (played, settled, crossings):
                    check_refused(self, InvalidWeb, {"value": value}, function, kind, value, None, None)
                    check_refused(self, InvalidWeb, {"value": value}, function, run=[], word="back", web=value, kind=kind)

    def test_words(self):
        for value in WRONG_WORDS:
            for kind in (NAMES, ("table", DIAMOND)):
                for function in (played, settled, crossings):
                    check_refused(self, InvalidWord, {"value": value}, function, kind, PATH, value, None)
                    check_refused(self, InvalidWord, {"value": value}, function, run=[], word=value, web=PATH, kind=kind)

    def test_runs(self):
        for value in NO_RUNS:
            for function in (played, settled, crossings):
                for word in WAYS:
                    check_refused(self, InvalidRun, {"value": value}, function, NAMES, PATH, word, value)
                check_refused(self, InvalidRun, {"value": value}, function, run=value, word="back", web=PATH, kind=NAMES)
        # Six copies that are all neighbours, where no web is told.
        wrong = [[("grow", 6, 1)], [("send", 2, 2)], [("send", 0, 6)], [("hear", 0)], [("grow", 0, -1)], None,
                 [("send", 0, 1), ("hear", 1)], [("grow", True, 1)], [("grow", 0, True)], [("send", 0, 1)] * 49]
        for value in wrong:
            for function in (grown, is_fresh):
                check_refused(self, InvalidRun, {"value": value}, function, COUNT, value)
                check_refused(self, InvalidRun, {"value": value}, function, run=value, kind=COUNT)
        every = [("send", one, other) for one in range(6) for other in range(6) if one != other]
        check_call(self, 0, grown, kind=COUNT, run=every + [("hear", 29), ("grow", 5, 0)])
        check_call(self, True, is_fresh, kind=COUNT, run=every + [("hear", 29), ("grow", 5, 0)])

    def test_states_of_another_kind(self):
        for kind, state in [(FLAG, 2), (COUNT, []), (("table", SQUARE), 4), (STEPS, [0, 1]), (BAG, [("a", 2)])]:
            run = [("grow", 0, least_of(kind)), ("grow", 0, state)]
            for function in (grown, is_fresh):
                check_refused(self, InvalidRun, {"value": run}, function, kind, run)
            check_refused(self, InvalidRun, {"value": run}, played, kind, TWO, "known", run)

    def test_not_even(self):
        """Behind all that is wrong with what is passed."""
        for kind in LISTS_KINDS + NEITHER_KINDS:
            for run in ([], [("grow", 0, least_of(kind)), ("send", 0, 1), ("hear", 0)]):
                for word in WAYS:
                    for function in (played, settled, crossings):
                        check_refused(self, NotEven, {}, function, kind, TWO, word, run)
                for function in (grown, is_fresh):
                    check_refused(self, NotEven, {}, function, kind, run)
                    check_refused(self, NotEven, {}, function, run=run, kind=kind)
            for run in ([("grow", 0, None)], [("hear", 0)], None):
                check_refused(self, InvalidRun, {"value": run}, played, kind, TWO, "back", run)
                check_refused(self, InvalidRun, {"value": run}, grown, kind, run)


if __name__ == "__main__":
    unittest.main()
