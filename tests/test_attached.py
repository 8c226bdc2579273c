import unittest

from partsmet.claims import paper_of
from partsmet.desk import Desk
from partsmet.errors import InvalidPaper, UnknownLabel
from tests.desks import made, shot
from tests.samples import ODD_VALUES, as_tuples, check_refused
from tests.test_commands import NO_NAMES
from tests.test_desk import CLAIMS, GEM, SHELF, shelf

PAPER = ([], (1, 2, 1, 3))
# Claims, papers of them or of their contraries, and values that are none of either.
PAPERS = [
    ("even d", PAPER, [([], (1, 2, 1, 1)), ([], (4, [1, 2], [1, 3])), None]),
    ("uneven d", ((), (1, 2, 1, 3)), [(["inner"], (1, 2, 1, 3))]),
    ("single d", ([], (4, (1, 2), [2, 3])), [PAPER, ([], (4, [1, 2], [2, 1]))]),
    ("double d", ([], (4, [1, 2], [2, 3])), [PAPER]),
    ("one m v w", [("b", 1)], [[("a", 1)], [("b", 1), ("c", 1)], 0]),
    ("parted m v w", (("zz", 9),), [[], None]),
    ("through m w n", 0, [1, False, None, ([("a", 4)], [("b", 4)])]),
    ("notthrough m w n", 0, [True, 1, [0]]),
    ("alike p f", [1, 2, 0], [[0, 1, 2], ([[0, 0], [1, 0]], [[0, 0], [0, 0]])]),
    ("alike p r", ([[0, 0, 0], [0, 0, 0], [0, 1, 0]], [[0, 0, 0], [1, 0, 0], [1, 1, 0]]), [[0, 1, 2], None]),
    ("unlike p f", (1, 2, 0), [[1, 2], "120"]),
    ("least t t s", [], [[("a", 2)], [("a", 0)], None]),
    ("notleast t t s", [("a", 1)], [[("a", 3)], 1]),
]
# Claims that are true without a paper of either word.
WITHOUT = ["even m", "uneven m", "single m", "double r", "one m w w", "parted m w w", "least s t s", "notleast s t s"]


class Attach(unittest.TestCase):
    def test_kept(self):
        for words, paper, wrong in PAPERS:
            desk = shelf(f"claim c {words}", "claim b even m")
            ahead = shot(desk)
            self.assertIs(desk.fits("c"), False)
            for value in wrong + [object, "paper", {}]:
                check_refused(self, InvalidPaper, {"value": value}, desk.attach, "c", value)
                check_refused(self, InvalidPaper, {"value": value}, desk.attach, paper=value, label="c")
            self.assertEqual(shot(desk), ahead)
            self.assertIsNone(desk.attach("c", paper))
            self.assertIs(desk.fits("c"), True)
            self.assertIs(desk.fits(label="c"), True)
            self.assertIs(desk.fits("b"), False)
            self.assertIsNone(desk.attach(label="c", paper=as_tuples(paper) if isinstance(paper, tuple) else paper))
            # It is no deed.
            self.assertEqual((len(desk), desk.lines()), (len(SHELF) + 2, SHELF + [f"claim c {words}", "claim b even m"]))
            for value in wrong:
                check_refused(self, InvalidPaper, {"value": value}, desk.attach, "c", value)
            self.assertIs(desk.fits("c"), True)

    def test_found_papers(self):
        for words, state, claim in CLAIMS:
            desk = shelf(f"claim c {words}")
            paper = paper_of(desk.claim_of("c"))
            if paper is not None:
                desk.attach("c", paper)
                self.assertIs(desk.fits("c"), True)

    def test_without_papers(self):
        for words in WITHOUT:
            desk = shelf(f"claim c {words}")
            for value in ODD_VALUES + [PAPER, 0, [], [("b", 1)], [("a", 2)]]:
                if words.endswith("least s t s") and value == [("a", 2)]:
                    continue
                check_refused(self, InvalidPaper, {"value": value}, desk.attach, "c", value)
            self.assertIs(desk.fits("c"), False)

    def test_gone(self):
        desk = made("kind d " + GEM, "claim c even d", "drop d")
        for value in [PAPER, None, []]:
            check_refused(self, InvalidPaper, {"value": value}, desk.attach, "c", value)
        self.assertIs(desk.fits("c"), False)
        desk.do("undo")
        self.assertIsNone(desk.attach("c", PAPER))

    def test_gone_by_too_many(self):
        desk = made("kind m map count", "view w joined", "put n count 3", "claim c through m w n", "claim b notthrough m w n")
        desk.attach("c", 0)
        desk.attach("b", 0)
        self.assertEqual(desk.do_all("drop n", "put n count 6", "states"), ["b gone, c gone", "-", "b gone, c gone"])
        for label in ("b", "c"):
            self.assertIs(desk.fits(label), False)
            for value in (0, ([("a", 6)], [])):
                check_refused(self, InvalidPaper, {"value": value}, desk.attach, label, value)
        self.assertEqual(desk.do_all("drop n", "put n count 5"), ["-", "b false, c true"])
        self.assertEqual((desk.fits("b"), desk.fits("c")), (True, True))

    def test_labels(self):
        desk = made("kind d " + GEM, "claim c even d", "claim b even d", "forget b")
        for value in ODD_VALUES + NO_NAMES + ["b", "d", ["c"], ("c",), b"c"]:
            check_refused(self, UnknownLabel, {"value": value}, desk.attach, value, PAPER)
            check_refused(self, UnknownLabel, {"value": value}, desk.attach, paper=None, label=value)
            check_refused(self, UnknownLabel, {"value": value}, desk.fits, value)

    def test_what_is_passed_is_copied(self):
        desk = made("kind d " + GEM, "claim c single d")
        paper = ([], (4, [1, 2], [2, 3]))
        desk.attach("c", paper)
        paper[1][1].clear()
        paper[0].append("inner")
        self.assertIs(desk.fits("c"), True)
        places = [1, 2, 0]
        desk = shelf("claim c alike p f")
        desk.attach("c", places)
        places.reverse()
        self.assertIs(desk.fits("c"), True)


class Fits(unittest.TestCase):
    def test_changes_of_what_it_speaks_of(self):
        desk = made("kind d " + GEM, "claim c even d")
        desk.attach("c", PAPER)
        self.assertEqual(desk.do("drop d"), "c gone")
        self.assertIs(desk.fits("c"), False)
        # Another kind, of which it is no paper, is even; and one that is not, with another culprit.
        self.assertEqual(desk.do("kind d count"), "c true")
        self.assertIs(desk.fits("c"), False)
        desk.do_all("drop d", "kind d map " + GEM)
        self.assertEqual((desk.do("state c"), desk.fits("c")), ("false", False))
        desk.do_all("drop d", "kind d table 0,1,2,3,4;1,1,4,4,4;2,4,2,4,4;3,4,4,3,4;4,4,4,4,4")
        self.assertEqual((desk.do("state c"), desk.fits("c")), ("false", True))

    def test_grown_states(self):
        desk = made("put s count 5", "put t count 2", "put u count 6", "put y count 3", "claim c least s t u")
        desk.attach("c", 5)
        self.assertIs(desk.fits("c"), True)
        self.assertEqual(desk.do("grow s u"), "c true")
        self.assertIs(desk.fits("c"), False)
        self.assertEqual(desk.do("undo"), "grow s u")
        self.assertIs(desk.fits("c"), True)
        self.assertEqual(desk.do("grow t y"), "-")
        self.assertIs(desk.fits("c"), True)

    def test_undo_and_forget(self):
        """The paper stays, whatever comes; it fits where the claim has the words for which it was attached."""
        desk = made("kind d " + GEM, "kind e " + GEM, "claim c even d")
        desk.attach("c", PAPER)
        desk.do("undo")
        check_refused(self, UnknownLabel, {"value": "c"}, desk.fits, "c")
        desk.do("redo")
        self.assertIs(desk.fits("c"), True)
        for line, answer in [("claim c even e", False), ("claim c uneven d", False), ("claim c single d", False),
                             ("claim c even d", True)]:
            desk.do_all("forget c", line)
            self.assertIs(desk.fits("c"), answer, line)
        desk.do_all("undo", "undo")
        self.assertEqual((desk.do("claimed c"), desk.fits("c")), ("single d", False))
        while len(desk) > 3:
            desk.do("undo")
        self.assertIs(desk.fits("c"), True)
        while len(desk):
            desk.do("undo")
        desk.do_all("kind d " + GEM, "claim c even d")
        self.assertIs(desk.fits("c"), True)

    def test_another_one_in_its_place(self):
        desk = made("kind d " + GEM, "claim c even d")
        desk.attach("c", PAPER)
        desk.do_all("forget c", "claim c double d")
        self.assertIs(desk.fits("c"), False)
        desk.attach("c", ([], (4, [1, 2], [2, 3])))
        self.assertIs(desk.fits("c"), True)
        desk.do_all("undo", "undo")
        self.assertEqual((desk.do("claimed c"), desk.fits("c")), ("even d", False))
        desk.do_all("redo", "redo")
        self.assertIs(desk.fits("c"), True)

    def test_attached_behind_an_undo(self):
        desk = made("kind d " + GEM, "claim c even d", "drop d", "undo")
        desk.attach("c", PAPER)
        self.assertEqual(desk.do("redo"), "drop d")
        self.assertIs(desk.fits("c"), False)
        self.assertEqual(desk.do("undo"), "drop d")
        self.assertIs(desk.fits("c"), True)

    def test_for_what_it_was_kept(self):
        """The claim or its contrary, whichever it was; where that is not so any more, it does not fit."""
        desk = made("put s count 5", "put t count 2", "put u count 6", "claim c notleast s t u", "claim b least s t u")
        for label in ("b", "c"):
            desk.attach(label, 5)
            self.assertIs(desk.fits(label), True)
        desk = made("kind p row 3", "kind q tops 2 0<1", "claim c alike p q")
        desk.attach("c", [0, 1])
        self.assertIs(desk.fits("c"), True)
        desk.do_all("drop q", "kind q tops 2 1<0")
        self.assertEqual((desk.do("state c"), desk.fits("c")), ("true", False))
        # Kinds that were unlike are alike now, and the other way about.
        desk = made("kind p row 1", "kind q row 2", "claim c alike p q")
        desk.attach("c", ([], [[0]]))
        desk.do_all("drop q", "kind q row 1")
        self.assertEqual((desk.do("state c"), desk.fits("c")), ("true", False))
        desk = made("kind p tops 2 0<1", "kind q tops 2 -", "claim c unlike p q")
        tables = ([[0, 0], [1, 0]], [[0, 0], [0, 0]])
        desk.attach("c", tables)
        desk.do_all("drop p", "kind p row 3")
        self.assertIs(desk.fits("c"), True)
        desk.do_all("drop p", "kind p tops 2 -")
        self.assertEqual((desk.do("state c"), desk.fits("c")), ("false", False))

    def test_one_label_each(self):
        desk = made("kind d " + GEM, "claim c even d", "claim b even d")
        desk.attach("c", PAPER)
        self.assertEqual((desk.fits("b"), desk.fits("c")), (False, True))
        self.assertEqual(Desk.again(desk.lines()).fits("c"), False)


if __name__ == "__main__":
    unittest.main()
