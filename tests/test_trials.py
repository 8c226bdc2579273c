import unittest

from partsmet.desk import Desk, Trial, tried
from partsmet.errors import (
    CommandFailed,
    InvalidCommand,
    InvalidDeeds,
    NameTaken,
    NotEven,
    NothingToRedo,
    NothingToUndo,
    TooMany,
    UnknownLabel,
    UnknownName,
    UnlikeKinds,
)
from tests.desks import failing, kept, made, redone, shot
from tests.samples import ODD_VALUES, same
from tests.test_desk import GEM, SHELF

# Eleven names, so that one further one has a place.
LINES = [line for line in SHELF if line != "view w joined"] + ["claim c even m", "grow s t", "note g s", "claim l least s t s", "drop d"]
PAPER = ([], (1, 2, 1, 3))


def busy():
    """A desk with deeds, deeds taken back, claims and a paper."""
    desk = made(*LINES, "claim u uneven m", "undo", "undo", "claim d even d", "drop r", "undo")
    desk.attach("d", PAPER)
    return desk


class DoAll(unittest.TestCase):
    def test_answers(self):
        desk = Desk()
        lines = ["kind k row 2", "claim c even k", "show k", "drop k", "states", "undo", "names", "redo"]
        answers = ["-", "c true", "row 2", "c gone", "c gone", "drop k", "k", "drop k"]
        self.assertTrue(same(desk.do_all(*lines), answers))
        self.assertEqual(desk.lines(), ["kind k row 2", "claim c even k", "drop k"])
        self.assertTrue(same(desk.do_all(), []))

    def test_failing(self):
        """None has an effect, whatever stood ahead of the one that failed; its error is the cause."""
        rows = [
            (["kind k row 2", "drop s", "drop s"], 2, UnknownName, {"value": "s"}),
            (["kind s count"], 0, NameTaken, {"name": "s"}),
            (["undo", "undo", "kind 1 count", "redo"], 2, InvalidCommand, {"value": "kind 1 count"}),
            (["names", None], 1, InvalidCommand, {"value": None}),
            (["redo", "redo", "redo"], 1, NothingToRedo, {}),
            (["undo"] * 40, 16, NothingToUndo, {}),
            (["drop m", "state q"], 1, UnknownLabel, {"value": "q"}),
            (["drop m", "drop n", "put n " + GEM + " 1", "less y n n"], 3, NotEven, {}),
            (["grow s t", "grow s n"], 1, UnlikeKinds, {}),
            (["drop p", "note g s"] + ["note g t"] * 45, 40, TooMany, {"what": "entries", "limit": 40}),
            (["forget d", "kind y count", "kind z count"], 2, TooMany, {"what": "names", "limit": 12}),
        ]
        for lines, position, error, attributes in rows:
            desk = busy()
            ahead = shot(desk)
            for function in (desk.do_all, desk.attempt):
                with self.assertRaises(CommandFailed) as caught:
                    function(*lines)
                self.assertTrue(same(caught.exception.position, position), (lines, caught.exception.position))
                self.assertIs(caught.exception.__class__, CommandFailed)
                self.assertIs(caught.exception.__cause__.__class__, error)
                self.assertEqual(vars(caught.exception.__cause__), attributes)
                self.assertEqual(shot(desk), ahead)
                self.assertIs(desk.fits("d"), True)

    def test_what_can_be_done_again_stays(self):
        desk = busy()
        self.assertEqual(redone(desk), ["drop r"])
        self.assertIsNotNone(failing(desk.do_all, "kind k row 2", "drop q"))
        self.assertEqual(redone(desk), ["drop r"])
        self.assertIsNotNone(failing(desk.do_all, "undo", "undo", "drop q"))
        self.assertEqual((redone(desk), desk.lines()[-1]), (["drop r"], "claim d even d"))


class Attempt(unittest.TestCase):
    def test_all_as_before(self):
        desk = busy()
        ahead = shot(desk)
        lines = ["drop s", "undo", "undo", "kind k row 2", "claim k even k", "states", "forget k"]
        answers = desk.attempt(*lines)
        self.assertTrue(same(answers, ["l gone", "drop s", "claim d even d", "-", "k true", "c true, k true, l false", "-"]))
        self.assertEqual(shot(desk), ahead)
        self.assertEqual(desk.attempt(), [])
        self.assertEqual(desk.attempt(*lines), answers)
        self.assertEqual(desk.do_all(*lines), answers)
        self.assertNotEqual(shot(desk), ahead)


class Trials(unittest.TestCase):
    def test_block(self):
        desk = busy()
        ahead = shot(desk)
        with Trial(desk) as held:
            self.assertIs(held, desk)
            held.do_all("drop s", "undo", "undo", "undo", "kind k row 2", "claim k even k")
            desk.do("forget k")
            self.assertNotEqual(shot(desk), ahead)
        self.assertEqual(shot(desk), ahead)

    def test_papers_too(self):
        desk = made("kind d " + GEM, "claim c even d", "claim b even d")
        desk.attach("c", PAPER)
        with Trial(desk=desk):
            desk.attach("b", PAPER)
            desk.attach("c", ((), (1, 3, 1, 2)))
            self.assertIs(desk.fits("b"), True)
        self.assertIs(desk.fits("b"), False)
        self.assertIs(desk.fits("c"), True)

    def test_errors_go_on(self):
        desk = busy()
        ahead = shot(desk)
        for error in (ValueError("x"), KeyError(3), NotEven()):
            with self.assertRaises(error.__class__) as caught:
                with Trial(desk) as held:
                    held.do("drop s")
                    raise error
            self.assertIs(caught.exception, error)
            self.assertEqual(shot(desk), ahead)
        with self.assertRaises(UnknownName):
            with Trial(desk) as held:
                held.do("drop s")
                held.do("drop s")
        self.assertEqual(shot(desk), ahead)

    def test_one_after_another_and_within(self):
        desk = busy()
        trial = Trial(desk)
        for command in ("drop s", "drop t"):
            ahead = shot(desk)
            with trial as held:
                held.do(command)
                within = shot(desk)
                with Trial(desk) as again:
                    again.do_all("drop n", "drop v")
                self.assertEqual(shot(desk), within)
            self.assertEqual(shot(desk), ahead)
            # Behind the block the next deed goes on from there, and the next block is as that one left it.
            desk.do("grow t s")

    def test_tried(self):
        desk = busy()
        ahead = shot(desk)
        self.assertEqual(tried(desk, lambda held: held.do_all("drop s", "names")), ["l gone", "d f g m n p r t v x"])
        self.assertIs(tried(desk=desk, action=lambda held: held), desk)
        self.assertIsNone(tried(desk, lambda held: held.do("undo") and None))
        self.assertEqual(tried(desk, len), len(desk))
        self.assertEqual(shot(desk), ahead)
        with self.assertRaises(UnknownName):
            tried(desk, lambda held: [held.do("drop s"), held["s"]])
        with self.assertRaises(ZeroDivisionError):
            tried(desk, lambda held: [held.do("drop s"), 1 // 0])
        self.assertEqual(shot(desk), ahead)


class Copies(unittest.TestCase):
    def test_go_on_by_themselves(self):
        desk = busy()
        ahead = shot(desk)
        other = desk.copy()
        self.assertIs(other.__class__, Desk)
        self.assertIsNot(other, desk)
        self.assertEqual(shot(other), ahead)
        other.do_all("drop s", "forget d", "claim y single m")
        self.assertEqual(shot(desk), ahead)
        later = shot(other)
        desk.do_all("redo", "undo", "undo", "undo", "kind k row 2")
        self.assertEqual(shot(other), later)
        other = desk.copy()
        while len(desk):
            desk.do("undo")
        self.assertEqual((len(other), desk.names), (len(other.lines()), []))
        self.assertIn("k", other)

    def test_papers_and_what_can_be_done_again(self):
        desk = busy()
        other = desk.copy()
        self.assertIs(other.fits("d"), True)
        self.assertEqual(other.do("redo"), "drop r")
        self.assertEqual(redone(desk), ["drop r"])
        other.do_all("undo", "forget d", "claim d uneven d")
        other.attach("d", PAPER)
        self.assertIs(desk.fits("d"), True)
        desk.do_all("forget d", "claim d uneven d")
        self.assertIs(desk.fits("d"), False)
        self.assertIs(other.fits("d"), True)


class Again(unittest.TestCase):
    def test_from_lines(self):
        desk = busy()
        for lines in (desk.lines(), tuple(desk.lines())):
            other = Desk.again(lines)
            self.assertIs(other.__class__, Desk)
            self.assertEqual((kept(other), other.lines(), other.do("states")), (kept(desk), desk.lines(), desk.do("states")))
            self.assertEqual(redone(other), [])
        self.assertIs(other.fits("d"), False)
        self.assertEqual(kept(Desk.again(lines=desk.lines())), kept(desk))
        self.assertEqual(len(Desk.again([])), 0)
        self.assertEqual(desk.again(["kind k count"]).names, ["k"])

    def test_lines(self):
        desk = busy()
        self.assertEqual(desk.lines(), LINES[:-1] + ["claim d even d"])
        desk.lines().append("names")
        self.assertEqual(desk.lines(), LINES[:-1] + ["claim d even d"])
        self.assertEqual(Desk().lines(), [])

    def test_no_lists(self):
        for value in [value for value in ODD_VALUES if not isinstance(value, (list, tuple))] + ["kind k count", 0, 1, b"undo"]:
            self.assertEqual(failing(Desk.again, value), (InvalidDeeds, {"position": None}))

    def test_no_deeds(self):
        """The first that is no deed, whether the ones ahead of it can be done or not."""
        rows = [
            (["undo"], 0),
            (["kind k count", "names"], 1),
            (["kind k count", "kind k count", "redo"], 2),
            (["drop q", "drop q", None, "undo"], 2),
            (["kind k count", ["drop k"]], 1),
            (["kind k count", "drop k", "kind k cnt", 5], 2),
            ([True], 0),
            ([""], 0),
            (["show k", "kind k count"], 0),
        ]
        for lines, position in rows:
            for passed in (lines, tuple(lines)):
                found = failing(Desk.again, passed)
                self.assertEqual(found, (InvalidDeeds, {"position": position}))
                self.assertIs(type(found[1]["position"]), int)

    def test_failing(self):
        rows = [
            (["kind k count", "kind k count"], 1, NameTaken, {"name": "k"}),
            (["drop q"], 0, UnknownName, {"value": "q"}),
            (["put s " + GEM + " 1", "put t " + GEM + " 2", "less u s t", "drop s"], 2, NotEven, {}),
        ]
        for lines, position, error, attributes in rows:
            with self.assertRaises(CommandFailed) as caught:
                Desk.again(lines)
            self.assertEqual(caught.exception.position, position)
            self.assertIs(caught.exception.__cause__.__class__, error)
            self.assertEqual(vars(caught.exception.__cause__), attributes)

    def test_three_hundred(self):
        lines = ["kind k count", "drop k"] * 150
        self.assertEqual(len(Desk.again(lines)), 300)
        with self.assertRaises(CommandFailed) as caught:
            Desk.again(lines + ["kind k count"])
        self.assertEqual(caught.exception.position, 300)
        self.assertEqual(vars(caught.exception.__cause__), {"what": "deeds", "limit": 300})


if __name__ == "__main__":
    unittest.main()
