import random
import unittest

from partsmet.desk import Desk
from partsmet.errors import (
    Endless,
    InvalidClaim,
    InvalidCommand,
    InvalidView,
    LabelTaken,
    NameTaken,
    NotEven,
    NothingToRedo,
    NothingToUndo,
    TooMany,
    UnknownLabel,
    UnknownName,
    UnlikeKinds,
)
from partsmet.joins import joined
from partsmet.texts import written
from tests.desks import failing, kept, made, redone, shot, state_by_hand, states_of
from tests.samples import DIAMOND, ODD_VALUES, check_refused, list_marks, same
from tests.test_commands import DEEDS, NO_NAMES, OTHERS, WRONG

COUNT, COUNTS, BAG = ("count",), ("map", ("count",)), ("map", ("row", 2))
GEM = "table 0,1,2,3,4;1,1,4,4,4;2,4,2,4,4;3,4,4,3,4;4,4,4,4,4"
SPAN = "table 0,1,2,3,4,5,6;1,1,4,6,4,6,6;2,4,2,5,4,5,6;3,6,5,3,6,5,6;4,4,4,6,4,6,6;5,6,5,5,6,5,6;6,6,6,6,6,6,6"
WIDE = "map later row 4 row 19"
# Twelve sorts of things for the commands below.
SHELF = [
    "kind m map count", "kind r row 4", "kind d " + GEM, "kind p pair row 3 row 2", "kind f tops 3 2<0",
    "put s map count {a:2}", "put t map count {a:1,b:3}", "put n count 4", "put x pair row 3 row 2 (2,1)",
    "view v at a", "view w joined", "log g map count",
]
# Deeds on that shelf, and what they keep.
KEPT = [
    (["drop d", "kind n1 tops 3 0<1"], "n1", ("tops", 3, [(0, 1)])),
    (["drop d", "put n1 row 4 3"], "n1", (("row", 4), 3)),
    (["drop d", "log n1 tops 2 -"], "n1", (("tops", 2, []), [])),
    (["drop d", "view n1 then first some b,a"], "n1", ("then", ("first",), ("some", ["b", "a"]))),
    (["drop d", "join n1 s t"], "n1", (COUNTS, [("a", 2), ("b", 3)])),
    (["drop d", "less n1 s t"], "n1", (COUNTS, [("a", 2)])),
    (["drop d", "less n1 t s"], "n1", (COUNTS, [("b", 3)])),
    (["drop d", "less n1 x x"], "n1", (("pair", ("row", 3), ("row", 2)), (0, 0))),
    (["grow s t"], "s", (COUNTS, [("a", 2), ("b", 3)])),
    (["grow s t"], "t", (COUNTS, [("a", 1), ("b", 3)])),
    (["grow s s"], "s", (COUNTS, [("a", 2)])),
    (["note g s", "note g t", "note g s"], "g", (COUNTS, [[("a", 2)], [("a", 1), ("b", 3)], [("a", 2)]])),
    (["note g s", "note g t", "note g s", "thin g"], "g", (COUNTS, [[("a", 2)], [("b", 3)]])),
    (["note g t", "note g s", "thin g"], "g", (COUNTS, [[("a", 1), ("b", 3)], [("a", 2)]])),
    (["note g t", "note g s", "split g"], "g", (COUNTS, [[("a", 2)], [("b", 3)]])),
    (["note g s", "note g t", "strip g s"], "g", (COUNTS, [[("a", 1), ("b", 3)]])),
    (["note g s", "note g t", "strip g t"], "g", (COUNTS, [[("a", 2)]])),
    (["drop d", "note g s", "copy h g", "note h t", "drop f", "after k h g"], "k",
     (COUNTS, [[("a", 2)], [("a", 1), ("b", 3)]])),
    (["drop d", "note g s", "copy h g", "note h t", "drop f", "after k g h"], "k", (COUNTS, [[("a", 2)], [("b", 3)]])),
    (["drop d", "copy n1 m"], "n1", COUNTS),
    (["drop d", "copy n1 s"], "n1", (COUNTS, [("a", 2)])),
    (["drop d", "copy n1 g"], "n1", (COUNTS, [])),
    (["drop d", "copy n1 v", "drop v"], "n1", ("at", "a")),
    (["drop d", "copy n1 s", "grow n1 t"], "s", (COUNTS, [("a", 2)])),
    (["drop d", "copy n1 s", "grow s t"], "n1", (COUNTS, [("a", 2)])),
    (["drop d", "kind d count"], "d", COUNT),
]
# Other commands on that shelf, behind these deeds, and their answers.
ANSWERS = [
    ([], "names", "d f g m n p r s t v w x"),
    ([], "states", "-"),
    ([], "show m", "map count"),
    ([], "show d", GEM),
    ([], "show f", "tops 3 2<0"),
    ([], "show s", "map count {a:2}"),
    ([], "show x", "pair row 3 row 2 (2,1)"),
    ([], "show g", "map count"),
    (["note g s", "note g t"], "show g", "map count {a:2} {a:1,b:3}"),
    ([], "show v", "at a"),
    (["drop w", "view w both then first some b,a renamed a>b,c>d"], "show w", "both then first some b,a renamed a>b,c>d"),
    (["drop w", "view w some -"], "show w", "some -"),
    ([], "same s t", "no"),
    ([], "same s s", "yes"),
    (["drop d", "copy n1 s"], "same s n1", "yes"),
    (["drop d", "put n1 map row 3 {a:2}"], "same s n1", "no"),
    (["drop d", "put n1 row 9 4"], "same n n1", "no"),
    (["drop d", "kind n1 map count"], "same m n1", "yes"),
    ([], "same m r", "no"),
    ([], "same v w", "no"),
    (["drop d", "copy n1 v"], "same n1 v", "yes"),
    (["drop d", "log n1 map count"], "same n1 g", "yes"),
    (["drop d", "log n1 map count", "note g s"], "same n1 g", "no"),
    (["drop d", "log n1 count"], "same n1 g", "no"),
    ([], "grade m", "differences"),
    ([], "grade d", "neither"),
    (["drop d", "kind d " + SPAN], "grade d", "lists"),
    ([], "many r", "4"),
    ([], "many p", "6"),
    ([], "lots f", "6"),
    ([], "lots p", "6"),
    ([], "ways p", "3"),
    ([], "ways r", "1"),
    ([], "part s", "yes"),
    ([], "part t", "no"),
    ([], "part x", "no"),
    ([], "parts t", "{a:1} {b:3}"),
    ([], "parts x", "(0,1) (2,0)"),
    (["drop d", "put n1 map count {}"], "parts n1", "-"),
    ([], "atmost s t", "no"),
    (["grow t s"], "atmost s t", "yes"),
    ([], "beside s t", "yes"),
    (["grow t s"], "beside s t", "no"),
    (["drop d", "put n1 pair row 3 row 2 (0,0)"], "distance x n1", "3"),
    ([], "distance x x", "0"),
    ([], "sum g", "{}"),
    (["note g s", "note g t"], "sum g", "{a:2,b:3}"),
    ([], "needless g", "-"),
    (["note g s", "note g t"], "needless g", "-"),
    (["note g s", "note g s", "note g t", "note g s"], "needless g", "0,1,3"),
    ([], "worth v t", "1"),
    ([], "worth w t", "3"),
    (["drop w", "view w some b,c"], "worth w t", "{b:3}"),
    (["drop w", "view w both joined same"], "worth w t", "(3,{a:1,b:3})"),
    (["drop w", "view w second"], "worth w x", "1"),
    (["claim c even m"], "state c", "true"),
    (["claim c even d"], "state c", "false"),
    (["claim c even d", "drop d"], "state c", "gone"),
    (["claim c even d", "claim a least s t s", "claim b alike p f"], "states", "a true, b true, c false"),
    (["claim c even d", "claim m unlike p f", "drop d"], "states", "c gone, m false"),
    (["claim c even d"], "claimed c", "even d"),
    (["claim c notleast s t s"], "claimed c", "notleast s t s"),
    (["claim c one m v w", "drop w"], "claimed c", "one m v w"),
]
# Claims on that shelf: their words, states at once, and their tuples.
CLAIMS = [
    ("even m", "true", ("even", COUNTS)),
    ("uneven m", "false", ("uneven", COUNTS)),
    ("even d", "false", ("even", ("table", DIAMOND))),
    ("single d", "false", ("single", ("table", DIAMOND))),
    ("double d", "true", ("double", ("table", DIAMOND))),
    ("one m v w", "false", ("one", COUNTS, ("at", "a"), ("joined",))),
    ("parted m v w", "true", ("parted", COUNTS, ("at", "a"), ("joined",))),
    ("one m w w", "true", ("one", COUNTS, ("joined",), ("joined",))),
    ("through m w n", "true", ("through", COUNTS, ("joined",), 4)),
    ("notthrough m v n", "false", ("notthrough", COUNTS, ("at", "a"), 4)),
    ("alike p f", "true", ("alike", ("pair", ("row", 3), ("row", 2)), ("tops", 3, [(2, 0)]))),
    ("unlike p r", "true", ("unlike", ("pair", ("row", 3), ("row", 2)), ("row", 4))),
    ("least s t s", "true", ("least", COUNTS, [("a", 2)], [("a", 1), ("b", 3)], [("a", 2)])),
    ("notleast t t s", "true", ("notleast", COUNTS, [("a", 1), ("b", 3)], [("a", 1), ("b", 3)], [("a", 2)])),
]


def shelf(*lines):
    return made(*SHELF, *lines)


class Tables(unittest.TestCase):
    def test_what_deeds_keep(self):
        for lines, name, value in KEPT:
            desk = shelf(*lines[:-1])
            ahead = kept(desk)[0]
            self.assertEqual(desk.do(lines[-1]), "-", lines)
            self.assertTrue(same(desk[name], value), (lines, desk[name]))
            self.check_sort(desk, name, value)
            others = {each: thing for each, thing in ahead.items() if each != lines[-1].split(" ")[1]}
            self.assertEqual({each: thing for each, thing in kept(desk)[0].items() if each in others}, others)
            self.assertEqual(desk.lines(), SHELF + lines)
            self.assertEqual(len(desk), len(SHELF) + len(lines))

    def check_sort(self, desk, name, value):
        """What the deed keeps is of its sort: so it serves where such a thing is wanted, and shows as one."""
        if isinstance(value[0], str):
            self.assertEqual(desk.do(f"same {name} {name}"), "yes")
            sort = "view" if value[0] in ("at", "then") else "kind"
            self.assertEqual(failing(desk.do, f"grade {name}") is None, sort == "kind")
            self.assertEqual(failing(desk.do, f"worth {name} s") in (None, (InvalidView, {"value": value})), sort == "view")
            self.assertEqual(desk.do(f"show {name}"), written(sort, value).split(" ", 1)[1].strip("\n")
                             if sort == "kind" else {"at": "at a", "then": "then first some b,a"}[value[0]])
        elif name in ("g", "k") or value == (("tops", 2, []), []) or value == (COUNTS, []):
            self.assertEqual(desk.do(f"sum {name}"), written("state", (value[0], joined(*value))).split("is ")[1].strip("\n"))
        else:
            self.assertEqual(desk.do(f"atmost {name} {name}"), "yes")
            self.assertEqual(desk.do(f"show {name}"), written("state", value)[6:-1].replace("\nis ", " "))

    def test_answers(self):
        for lines, command, answer in ANSWERS:
            desk = shelf(*lines)
            ahead = shot(desk)
            self.assertEqual(desk.do(command), answer, (lines, command))
            self.assertEqual(desk(command=command), answer)
            self.assertEqual(desk.do(command=command), answer)
            self.assertEqual(shot(desk), ahead)

    def test_all_commands_are_here(self):
        used = {line.split(" ")[0] for lines, *_ in KEPT for line in lines}
        used |= {line.split(" ")[0] for lines, command, _ in ANSWERS for line in [*lines, command]}
        used |= {"undo", "redo", "forget"}
        self.assertEqual(used, {line.split(" ")[0] for line in DEEDS + OTHERS})

    def test_empty(self):
        desk = Desk()
        self.assertEqual((desk.names, desk.labels, len(desk), desk.lines()), ([], [], 0, []))
        self.assertEqual((desk.do("names"), desk.do("states")), ("-", "-"))
        self.assertEqual(desk.do_all(), [])

    def test_not_iterated_over(self):
        with self.assertRaises(TypeError):
            iter(shelf())


class Kept(unittest.TestCase):
    def test_names_and_labels(self):
        desk = shelf("claim z even m", "claim a even d", "claim m single m")
        self.assertEqual(desk.names, ["d", "f", "g", "m", "n", "p", "r", "s", "t", "v", "w", "x"])
        self.assertEqual(desk.labels, ["a", "m", "z"])
        desk.names.append("more")
        desk.labels.append("more")
        self.assertEqual((len(desk.names), len(desk.labels)), (12, 3))
        desk.do_all("drop m", "forget z")
        self.assertEqual((desk.labels, "m" in desk, "z" in desk), (["a", "m"], False, False))

    def test_in(self):
        desk = shelf("claim z even m", "drop r")
        for value in ["d", "m", "s", "v", "g"]:
            self.assertIs(value in desk, True)
        for value in ODD_VALUES + NO_NAMES + ["r", "z", "q", ["m"], ("m",), {"m"}, b"m"]:
            self.assertIs(value in desk, False)

    def test_new_each_time(self):
        desk = shelf("note g s")
        for name in desk.names:
            one, other = desk[name], desk[name]
            self.assertTrue(same(one, other))
            self.assertFalse(set(list_marks(one)) & set(list_marks(other)))
        desk["s"][1].append(("b", 1))
        desk["g"][1].append([])
        desk["f"][2].clear()
        self.assertEqual(desk["s"], (COUNTS, [("a", 2)]))
        self.assertEqual(desk["g"], (COUNTS, [[("a", 2)]]))
        self.assertEqual(desk["f"], ("tops", 3, [(2, 0)]))

    def test_unknown_names(self):
        desk = shelf("claim z even m", "drop r")
        for value in ODD_VALUES + NO_NAMES + ["r", "z", "q", ["m"], ("m",), b"m"]:
            check_refused(self, UnknownName, {"value": value}, lambda at: desk[at], value)
            check_refused(self, UnknownName, {"value": value}, desk.__getitem__, name=value)

    def test_labels_and_names_stand_apart(self):
        desk = shelf("claim m even m")
        self.assertEqual(desk.do_all("drop m", "kind m " + GEM), ["m gone", "m false"])
        self.assertEqual(desk.do("forget m"), "-")
        self.assertEqual((desk.names.count("m"), desk.labels), (1, []))


class Claims(unittest.TestCase):
    def test_noted(self):
        for words, state, claim in CLAIMS:
            desk = shelf()
            self.assertEqual(desk.do(f"claim c {words}"), f"c {state}", words)
            self.assertEqual((desk.do("state c"), desk.do("states"), desk.do("claimed c")), (state, f"c {state}", words))
            self.assertTrue(same(desk.claim_of("c"), claim))
            self.assertTrue(same(desk.claim_of(label="c"), claim))
            self.assertFalse(set(list_marks(desk.claim_of("c"))) & set(list_marks(desk.claim_of("c"))))
            for name in words.split(" ")[1:]:
                self.assertEqual(desk.attempt(f"drop {name}", "state c"), ["c gone", "gone"])
            desk.do(f"drop {words.split(' ')[-1]}")
            self.assertIsNone(desk.claim_of("c"))
            self.assertEqual(desk.do("undo"), f"drop {words.split(' ')[-1]}")
            self.assertTrue(same(desk.claim_of("c"), claim))

    def test_changes(self):
        """Only labels with another state than ahead, sorted; a label that is noted counts, a forgotten one not."""
        desk = shelf("claim z even m", "claim b single m", "claim a even d")
        self.assertEqual(desk.do("claim c even m"), "c true")
        self.assertEqual(desk.do("forget c"), "-")
        self.assertEqual(desk.do("drop m"), "b gone, z gone")
        self.assertEqual(desk.do("states"), "a false, b gone, z gone")
        self.assertEqual(desk.do("kind m " + GEM), "b false, z false")
        self.assertEqual(desk.do_all("drop m", "kind m row 3", "drop d"), ["b gone, z gone", "b true, z true", "a gone"])
        self.assertEqual(desk.do("put d count 1"), "-")
        self.assertEqual(desk.do("forget a"), "-")
        self.assertEqual(desk.do("states"), "b true, z true")

    def test_grown_states(self):
        desk = shelf("claim a least s t s")
        self.assertEqual(desk.do("grow t s"), "a false")
        self.assertEqual(desk.do("undo"), "grow t s")
        self.assertEqual(desk.do("states"), "a true")
        self.assertEqual(desk.do_all("grow s t", "states"), ["a false", "a false"])

    def test_gone(self):
        rows = [
            # A thing of another sort, or of unlike kinds.
            ("claim c even m", ["drop m", "put m count 1"]),
            ("claim c even m", ["drop m", "view m same"]),
            ("claim c even m", ["drop m", "log m map count"]),
            ("claim c one m v w", ["drop w", "kind w map count"]),
            ("claim c least s t s", ["drop t", "put t count 1"]),
            ("claim c least s t s", ["drop t", "log t map count"]),
            ("claim c least s t s", ["drop t", "put t map row 9 {a:1,b:3}"]),
            # No claim any more.
            ("claim c one m v w", ["drop m", "kind m pair count count"]),
            ("claim c one m v w", ["drop w", "view w same"]),
            ("claim c through m w n", ["drop n", "put n count 0"]),
            ("claim c through m w n", ["drop n", "put n tops 2 - []"]),
            ("claim c through m w n", ["drop m", "kind m map " + SPAN]),
            ("claim c alike p f", ["drop f", "kind f count"]),
            ("claim c alike p f", ["drop f", "kind f row 8"]),
            ("claim c alike p f", ["drop f", "copy f d"]),
            ("claim c least s t s", ["drop s", "put s map count {c:1}", "drop x", "copy x s", "drop s", "copy s t",
                                     "drop x", "drop s", "view s same"]),
            # Too many counts or shapes.
            ("claim c through m w n", ["drop n", "put n count 6"]),
        ]
        for line, rest in rows:
            desk = shelf(line)
            ahead = desk.do("state c")
            self.assertNotEqual(ahead, "gone")
            desk.do_all(*rest)
            self.assertEqual((desk.do("state c"), desk.do("states"), desk.claim_of("c")), ("gone", "c gone", None), rest)
            for _ in rest:
                desk.do("undo")
            self.assertEqual(desk.do("state c"), ahead)

    def test_no_difference_any_more(self):
        desk = shelf("drop d", "drop r", "copy u s", "put y map count {z:1}", "claim c least s t u", "claim d notleast s t s")
        self.assertEqual(desk.do("states"), "c true, d false")
        self.assertEqual(desk.do("grow s y"), "c gone")
        self.assertEqual(desk.do("grow u y"), "c true")
        self.assertEqual(desk.do("grow t y"), "c false, d true")
        self.assertEqual(desk.do("drop t"), "c gone, d gone")

    def test_states_of_a_question_have_any_kind(self):
        desk = shelf("drop n", "put n row 20 4", "claim c through m w n")
        self.assertEqual(desk.claim_of("c"), ("through", COUNTS, ("joined",), 4))
        desk.do_all("drop n", "put n table 0,1;1,1 1")
        self.assertEqual(desk.claim_of("c"), ("through", COUNTS, ("joined",), 1))

    def test_too_many_shapes(self):
        desk = made("kind k " + WIDE, "view v some a,b,c,d,e,f", "view w some g", "claim c one k v w", "drop w")
        self.assertEqual(desk.do("view w some g,h"), "-")
        self.assertEqual(desk.do("state c"), "gone")
        self.assertEqual(desk.do_all("drop w", "view w some f,e,d,c,b,a"), ["-", "c true"])

    def test_unknown_labels(self):
        desk = shelf("claim c even m", "claim b even m", "forget b")
        for value in ODD_VALUES + NO_NAMES + ["b", "m", ["c"], ("c",), b"c", "C"]:
            for function in (desk.claim_of, desk.fits):
                check_refused(self, UnknownLabel, {"value": value}, function, value)
                check_refused(self, UnknownLabel, {"value": value}, function, label=value)


class Refused(unittest.TestCase):
    def check_failing(self, desk, command, error, attributes):
        """The command fails just so, and changes nothing."""
        ahead = shot(desk)
        check_refused(self, error, attributes, desk.do, command)
        check_refused(self, error, attributes, desk.do, command=command)
        check_refused(self, error, attributes, desk, command)
        self.assertEqual(shot(desk), ahead, command)

    def desk(self):
        """A desk with something to take back and something to do again."""
        return shelf("drop d", "claim c even m", "note g s", "undo", "drop w", "undo")

    def test_no_commands(self):
        desk = self.desk()
        for value in ODD_VALUES + WRONG + [b"names", ["names"], ("names",), 1, True]:
            self.check_failing(desk, value, InvalidCommand, {"value": value})

    def test_taken(self):
        desk = self.desk()
        for rest in ("kind {} count", "put {} count 1", "log {} count", "view {} same", "join {} s t", "less {} s t",
                     "after {} g g", "copy {} s", "join {} q q", "copy {} q"):
            for name in ("m", "s", "g", "v"):
                self.check_failing(desk, rest.format(name), NameTaken, {"name": name})
        for words in ("even m", "even q", "least s t n", "one m v v", "even d"):
            self.check_failing(desk, f"claim c {words}", LabelTaken, {"label": "c"})
        self.assertEqual(desk.attempt("kind c count", "claim m even m"), ["-", "m true"])

    def test_unknown_names(self):
        rows = [
            ("join y s q", "q"), ("join y q d", "q"), ("join y m s", "m"), ("join y s g", "g"), ("join y v g", "v"),
            ("less y d s", "d"), ("grow q s", "q"), ("grow s c", "c"), ("grow m m", "m"), ("note s s", "s"), ("note g g", "g"),
            ("note g m", "m"), ("thin s", "s"), ("split m", "m"), ("strip g v", "v"), ("strip v g", "v"), ("after y g s", "s"),
            ("after y s g", "s"), ("copy y d", "d"), ("drop d", "d"), ("drop c", "c"), ("show d", "d"), ("same d s", "d"),
            ("same s d", "d"), ("same s m", "m"), ("same m s", "s"), ("same g s", "s"), ("same s g", "g"), ("same v m", "m"),
            ("grade s", "s"), ("many d", "d"), ("lots v", "v"), ("ways g", "g"), ("part m", "m"), ("parts g", "g"),
            ("atmost s m", "m"), ("beside m s", "m"), ("distance d n", "d"), ("distance n g", "g"), ("sum s", "s"),
            ("needless v", "v"), ("worth s v", "s"), ("worth v m", "m"), ("worth v g", "g"), ("worth q q", "q"),
            ("claim y even s", "s"), ("claim y uneven d", "d"), ("claim y single v", "v"), ("claim y double g", "g"),
            ("claim y one m v s", "s"), ("claim y one v m w", "v"), ("claim y parted m d v", "d"),
            ("claim y through m v m", "m"), ("claim y through m v g", "g"), ("claim y notthrough m s n", "s"),
            ("claim y alike m s", "s"), ("claim y unlike d m", "d"), ("claim y least s t m", "m"),
            ("claim y notleast s g q", "g"), ("claim y least m d q", "m"),
        ]
        desk = self.desk()
        for command, name in rows:
            self.check_failing(desk, command, UnknownName, {"value": name})

    def test_unknown_labels(self):
        desk = self.desk()
        for command in ("state {}", "claimed {}", "forget {}"):
            for label in ("m", "q", "s"):
                self.check_failing(desk, command.format(label), UnknownLabel, {"value": label})

    def test_unlike_kinds(self):
        desk = made(*SHELF[:5], *SHELF[7:], "put s map count {a:2}", "put a1 row 9 4", "drop f", "drop w")
        for command in ("join y s n", "less y n a1", "grow s n", "grow n a1", "note g n", "strip g x", "atmost s n",
                        "beside n a1", "distance x n", "claim y least s s n", "claim y least s n s", "claim y notleast n a1 n"):
            self.check_failing(desk, command, UnlikeKinds, {})
        logs = made("log g count", "log h row 9", "put s row 9 1")
        for command in ("after y g h", "note g s", "strip g s"):
            self.check_failing(logs, command, UnlikeKinds, {})
        # Ahead of what the functions raise.
        gems = made("put s " + GEM + " 1", "put t map row 2 {}")
        for command in ("less y s t", "less y t s", "distance s t", "distance t s"):
            self.check_failing(gems, command, UnlikeKinds, {})

    def test_errors_of_functions(self):
        desk = made("put s " + GEM + " 1", "log g " + SPAN, "put t map count {a:1}", "kind m map count", "kind d " + GEM,
                    "kind l later row 20 row 20", "kind e row 12", "view v first", "put p pair row 20 tops 6 - (1,[])")
        many = [("less y s s", NotEven, {}), ("thin g", NotEven, {}), ("after y g g", NotEven, {}), ("many m", Endless, {}),
                ("many l", None, "400"), ("lots m", Endless, {}), ("ways d", NotEven, {}), ("lots d", NotEven, {}),
                ("ways e", TooMany, {"what": "parts", "limit": 10}), ("lots e", TooMany, {"what": "parts", "limit": 10}),
                ("distance t t", Endless, {}), ("worth v t", InvalidView, {"value": ("first",)}),
                ("worth v s", InvalidView, {"value": ("first",)}), ("distance p p", None, "0")]
        for command, error, told in many:
            if error is None:
                self.assertEqual(desk.do(command), told)
            else:
                self.check_failing(desk, command, error, told)
        long = made("kind k later row 20 row 20", "kind w pair later row 20 row 20 row 2", "put s later row 20 row 20 (0,0)")
        self.check_failing(long, "many w", TooMany, {"what": "states", "limit": 400})
        self.check_failing(long, "distance s s", TooMany, {"what": "parts", "limit": 200})
        view = made("view v some b,a", "put s count 1")
        error = failing(view.do, "worth v s")[1]["value"]
        error[1].append("c")
        self.assertEqual(view["v"], ("some", ["b", "a"]))

    def test_no_claims(self):
        rows = [
            (["kind d " + GEM, "view v same"], "claim y one d v v", ("one", ("table", DIAMOND), ("same",), ("same",))),
            (["kind m map count", "view v same", "view w joined"], "claim y parted m v w",
             ("parted", COUNTS, ("same",), ("joined",))),
            (["kind m map count", "view v first"], "claim y one m v v", ("one", COUNTS, ("first",), ("first",))),
            (["kind m map count", "view w joined", "put s count 0"], "claim y through m w s",
             ("through", COUNTS, ("joined",), 0)),
            (["kind m map count", "view w joined", "put s map count {a:1}"], "claim y notthrough m w s",
             ("notthrough", COUNTS, ("joined",), [("a", 1)])),
            (["kind m map count", "kind r row 2"], "claim y alike m r", ("alike", COUNTS, ("row", 2))),
            (["kind m row 8", "kind r row 2"], "claim y unlike r m", ("unlike", ("row", 2), ("row", 8))),
            (["put s count 5", "put t count 2"], "claim y least s t t", ("least", COUNT, 5, 2, 2)),
            (["put s " + GEM + " 1"], "claim y notleast s s s", ("notleast", ("table", DIAMOND), 1, 1, 1)),
        ]
        for lines, command, claim in rows:
            desk = made(*lines)
            self.check_failing(desk, command, InvalidClaim, {"value": claim})
            ahead = shot(desk)
            value = failing(desk.do, command)[1]["value"]
            for part in value[1:]:
                if isinstance(part, list):
                    part.clear()
            self.assertEqual(shot(desk), ahead)

    def test_claims_of_too_many(self):
        desk = made("kind k " + WIDE, "view v some a,b,c,d,e,f", "view w some g,h", "kind m map count", "view a at a",
                    "put s count 6", "put t map count {a:6}", "view u same")
        shapes, counts = {"what": "shapes", "limit": 600}, {"what": "counts", "limit": 5}
        for words, limit in [("one k v w", shapes), ("parted k v w", shapes), ("through m a s", counts),
                             ("notthrough m a s", counts), ("through m u t", counts)]:
            self.check_failing(desk, f"claim y {words}", TooMany, limit)

    def test_sequence_of_errors(self):
        """On a desk that is full of everything the first error is told, as the document lists them."""
        desk = made(*SHELF[:11], "log h count", *[f"claim l{at} even m" for at in range(12)])
        for _ in range(300 - len(desk)):
            desk.do("grow s s")
        self.assertEqual((len(desk), len(desk.names), len(desk.labels)), (300, 12, 12))
        names, labels = {"what": "names", "limit": 12}, {"what": "labels", "limit": 12}
        deeds = {"what": "deeds", "limit": 300}
        rows = [
            ("kind y cont", InvalidCommand, {"value": "kind y cont"}),
            ("join s q q", NameTaken, {"name": "s"}),
            ("claim l1 even q", LabelTaken, {"label": "l1"}),
            ("join y s q", UnknownName, {"value": "q"}),
            ("claim y even q", UnknownName, {"value": "q"}),
            ("copy y q", UnknownName, {"value": "q"}),
            ("forget y", UnknownLabel, {"value": "y"}),
            ("join y s n", UnlikeKinds, {}),
            ("claim y least s n s", UnlikeKinds, {}),
            ("claim y alike m p", InvalidClaim, {"value": ("alike", COUNTS, ("pair", ("row", 3), ("row", 2)))}),
            ("kind y count", TooMany, names),
            ("put y count 1", TooMany, names),
            ("log y count", TooMany, names),
            ("view y same", TooMany, names),
            ("join y s t", TooMany, names),
            ("less y s t", TooMany, names),
            ("after y h h", TooMany, names),
            ("copy y s", TooMany, names),
            ("claim y even m", TooMany, labels),
            ("grow s t", TooMany, deeds),
            ("drop s", TooMany, deeds),
            ("forget l1", TooMany, deeds),
            ("note h n", TooMany, deeds),
            ("thin h", TooMany, deeds),
            ("redo", NothingToRedo, {}),
        ]
        for command, error, attributes in rows:
            self.assertEqual(failing(desk.do, command), (error, attributes), command)
        self.assertEqual(desk.do("undo"), "grow s s")
        self.assertEqual(desk.do("redo"), "grow s s")
        self.assertEqual(failing(desk.do, "drop s"), (TooMany, deeds))
        self.assertEqual((desk.do("undo"), desk.do("drop d")), ("grow s s", "-"))
        self.assertEqual((len(desk), failing(desk.do, "drop p")), (300, (TooMany, deeds)))
        self.assertEqual(desk.lines()[-1], "drop d")

    def test_function_errors_ahead_of_too_many_names(self):
        desk = made(*SHELF[:7], "put n " + GEM + " 1", "log g " + SPAN, "log h count", *[f"view v{at} same" for at in (1, 2)])
        self.assertEqual(len(desk.names), 12)
        for command in ("less y n n", "after y g g"):
            self.check_failing(desk, command, NotEven, {})
        self.check_failing(desk, "join y n n", TooMany, {"what": "names", "limit": 12})


class Limits(unittest.TestCase):
    def test_twelve_names(self):
        desk = made(*[f"kind k{at} row 2" for at in range(12)])
        self.assertEqual(len(desk.names), 12)
        check_refused(self, TooMany, {"what": "names", "limit": 12}, desk.do, "kind k12 row 2")
        self.assertEqual(desk.do_all("drop k0", "kind k12 row 2"), ["-", "-"])
        check_refused(self, TooMany, {"what": "names", "limit": 12}, desk.do, "copy k0 k1")

    def test_twelve_labels(self):
        desk = made("kind k row 2", *[f"claim c{at} even k" for at in range(12)])
        self.assertEqual(len(desk.labels), 12)
        for words in ("even k", "uneven k"):
            check_refused(self, TooMany, {"what": "labels", "limit": 12}, desk.do, f"claim d {words}")
        self.assertEqual(desk.do_all("forget c3", "claim d uneven k"), ["-", "d false"])
        self.assertEqual(desk.do("drop k").count("gone"), 12)

    def test_forty_entries(self):
        desk = made("put s count 1", "log g count", *["note g s"] * 40)
        entries = {"what": "entries", "limit": 40}
        self.assertEqual(len(desk["g"][1]), 40)
        check_refused(self, TooMany, entries, desk.do, "note g s")
        self.assertEqual(len(desk), 42)
        self.assertEqual(desk.do_all("put t count 2", "log h count", "note h t"), ["-", "-", "-"])
        check_refused(self, TooMany, entries, desk.do, "after k g h")
        self.assertEqual(desk.do_all("after k h g", "show k"), ["-", "count 2"])
        self.assertEqual(desk.do_all("drop h", "log h count", "after l g h", "thin g", "show g", "note g s"),
                         ["-", "-", "-", "-", "count 1", "-"])
        self.assertEqual(len(desk["l"][1]), 40)

    def test_forty_parts(self):
        """A log that is split may come to more entries than there were."""
        words = [one + two for one in "ab" for two in "abcdefghijklmnopqrstuvwxyz"]
        for many, error in ((40, None), (41, (TooMany, {"what": "entries", "limit": 40}))):
            state = "{" + ",".join(f"{name}:1" for name in words[:many]) + "}"
            desk = made(f"put s map row 2 {state}", "log g map row 2", "note g s")
            self.assertEqual(failing(desk.do, "split g"), error)
            self.assertEqual(len(desk["g"][1]), many if error is None else 1)

    def test_300_deeds(self):
        desk = Desk()
        for at in range(150):
            desk.do_all("kind k row 2", "drop k")
        self.assertEqual(len(desk), 300)
        deeds = {"what": "deeds", "limit": 300}
        check_refused(self, TooMany, deeds, desk.do, "kind k row 2")
        self.assertEqual(desk.names, [])
        self.assertEqual(desk.do("undo"), "drop k")
        self.assertEqual(desk.do("redo"), "drop k")
        self.assertEqual([desk.do("undo"), desk.do("drop k")], ["drop k", "-"])
        check_refused(self, TooMany, deeds, desk.do, "view v same")
        self.assertEqual((desk.do("names"), desk.do("states")), ("-", "-"))


class UndoAndRedo(unittest.TestCase):
    def test_told(self):
        desk = Desk()
        check_refused(self, NothingToUndo, {}, desk.do, "undo")
        check_refused(self, NothingToRedo, {}, desk.do, "redo")
        desk.do_all("kind k row 2", "claim c even k", "drop k")
        self.assertEqual(desk.do_all("undo", "state c", "undo", "undo"), ["drop k", "true", "claim c even k", "kind k row 2"])
        self.assertEqual((desk.names, desk.labels, len(desk), desk.lines()), ([], [], 0, []))
        check_refused(self, NothingToUndo, {}, desk.do, "undo")
        self.assertEqual(desk.do_all("redo", "redo", "state c", "redo", "state c"),
                         ["kind k row 2", "claim c even k", "true", "drop k", "gone"])
        check_refused(self, NothingToRedo, {}, desk.do, "redo")
        self.assertEqual(desk.lines(), ["kind k row 2", "claim c even k", "drop k"])

    def test_new_deeds(self):
        """A deed behind an undo: nothing can be done again. What is no deed, or fails, takes nothing away."""
        desk = shelf()
        desk.do_all("undo", "undo")
        self.assertEqual(redone(desk), ["view w joined", "log g map count"])
        for command in ("names", "states", "show s", "same s t", "worth v s", "grade m"):
            desk.do(command)
        for command in ("kind s count", "drop w", "show w", "less y s n", "claim c even q", "Undo", None):
            self.assertIsNotNone(failing(desk.do, command))
        self.assertIsNotNone(failing(desk.do_all, "kind y count", "drop q"))
        self.assertEqual(desk.attempt("kind y count"), ["-"])
        self.assertEqual(redone(desk), ["view w joined", "log g map count"])
        self.assertEqual(desk.do("redo"), "view w joined")
        self.assertEqual(redone(desk), ["log g map count"])
        desk.do("kind y count")
        self.assertEqual(redone(desk), [])
        check_refused(self, NothingToRedo, {}, desk.do, "redo")
        self.assertEqual(desk.lines(), SHELF[:-1] + ["kind y count"])

    def test_there_and_back(self):
        """All the way back and on again, the desk is behind each deed as it was."""
        lines = SHELF + ["claim c even m", "grow s t", "note g s", "claim l least s t s", "drop d", "forget c", "note g t",
                         "thin g", "copy d s", "claim c single m"]
        desk, shots = Desk(), []
        for line in lines:
            shots.append((kept(desk), states_of(desk)))
            desk.do(line)
        last = shot(desk)
        for line, ahead in list(zip(lines, shots))[::-1]:
            self.assertEqual(desk.do("undo"), line)
            self.assertEqual((kept(desk), states_of(desk)), ahead)
        for line, ahead in zip(lines, shots):
            self.assertEqual((kept(desk), states_of(desk)), ahead)
            self.assertEqual(desk.do("redo"), line)
        self.assertEqual(shot(desk), last)

    def test_deeds_that_do_nothing(self):
        desk = shelf("grow s s", "grow s s")
        self.assertEqual((len(desk), desk.do("undo"), desk.do("undo"), len(desk)), (14, "grow s s", "grow s s", 12))


class RandomDeeds(unittest.TestCase):
    POOL = [
        "kind {0} map count", "kind {0} row 3", "kind {0} " + GEM, "kind {0} pair row 3 row 2", "kind {0} tops 3 2<0",
        "put {0} map count {{a:{2}}}", "put {0} map count {{b:1,c:2}}", "put {0} count {2}", "put {0} row 3 2",
        "log {0} map count", "view {0} at a", "view {0} joined", "view {0} same", "view {0} then joined same",
        "join {0} {1} {3}", "less {0} {1} {3}", "grow {0} {1}", "grow {1} {3}", "note {0} {1}", "note {1} {3}", "thin {0}",
        "split {0}", "strip {0} {1}", "after {0} {1} {3}", "copy {0} {1}", "drop {0}", "drop {1}", "claim {0} even {1}",
        "claim {0} double {1}", "claim {0} one {1} {3} {4}", "claim {0} parted {1} {3} {4}", "claim {0} through {1} {3} {4}",
        "claim {0} alike {1} {3}", "claim {0} unlike {1} {1}", "claim {0} least {1} {3} {4}", "claim {0} notleast {1} {3} {1}",
        "forget {0}", "undo", "undo", "redo", "states", "names", "show {0}", "same {0} {1}", "worth {0} {1}", "sum {0}",
        "parts {0}", "atmost {0} {1}", "grade {0}",
    ]

    def test_states_and_answers(self):
        mixed, done, seen = random.Random(98), 0, set()
        for _ in range(12):
            desk = Desk()
            for _ in range(130):
                names = [mixed.choice("abcdefghij") for _ in range(5)]
                names[2] = str(mixed.randrange(1, 6))
                command = mixed.choice(self.POOL).format(*names)
                done += self.check_step(desk, command)
            seen |= set(states_of(desk).values())
            for label in desk.labels:
                self.check_state(desk, label)
            self.assertEqual(kept(Desk.again(desk.lines())), kept(desk))
            self.assertEqual(states_of(Desk.again(desk.lines())), states_of(desk))
        self.assertGreater(done, 300)
        self.assertEqual(seen, {"true", "false", "gone"})

    def check_step(self, desk, command):
        """Whether the command was carried out; its answer, and what it left, are as they must be."""
        ahead, states, things = shot(desk), states_of(desk), kept(desk)
        try:
            answer = desk.do(command)
        except Exception:
            self.assertIsNotNone(failing(desk.do, command))
            self.assertEqual(shot(desk), ahead)
            return False
        now = states_of(desk)
        if desk.lines() != ahead[-2] and command not in ("undo", "redo"):
            changed = [f"{label} {state}" for label, state in sorted(now.items()) if states.get(label) != state]
            self.assertEqual(answer, ", ".join(changed) or "-", command)
            self.assertEqual(desk.lines(), ahead[-2] + [command])
            self.assertEqual(redone(desk), [])
            other = desk.copy()
            self.assertEqual(other.do("undo"), command)
            self.assertEqual((kept(other), states_of(other)), (things, states))
            self.assertEqual(other.do("redo"), command)
            self.assertEqual((kept(other), states_of(other)), (kept(desk), now))
        elif command == "undo":
            self.assertEqual((answer, desk.lines(), redone(desk)), (ahead[-2][-1], ahead[-2][:-1], [answer] + ahead[-1]))
        elif command == "redo":
            self.assertEqual((answer, desk.lines(), redone(desk)), (ahead[-1][0], ahead[-2] + [answer], ahead[-1][1:]))
        else:
            self.assertEqual(shot(desk), ahead)
        return True

    def check_state(self, desk, label):
        """The state by the things themselves, where each is of the sort that the claim wants."""
        word, *names = desk.do(f"claimed {label}").split(" ")
        wanted = {"even": "k", "double": "k", "one": "kvv", "parted": "kvv", "through": "kvs", "alike": "kk", "unlike": "kk",
                  "least": "sss", "notleast": "sss"}[word]
        sorts = {}
        for line in desk.lines():
            first, name, *rest = line.split(" ")
            if first in ("kind", "put", "log", "view"):
                sorts[name] = {"kind": "k", "put": "s", "log": "l", "view": "v"}[first]
            elif first in ("join", "less"):
                sorts[name] = "s"
            elif first == "after":
                sorts[name] = "l"
            elif first == "copy":
                sorts[name] = sorts[rest[0]]
        if all(name in desk and sorts[name] == sort for name, sort in zip(names, wanted)):
            self.assertEqual(desk.do(f"state {label}"), state_by_hand(desk, label))
        else:
            self.assertEqual(desk.do(f"state {label}"), "gone")


if __name__ == "__main__":
    unittest.main()
