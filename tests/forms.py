"""Values of all sorts with their written forms, as told by the document, not by the program."""

from tests.samples import BAG, DIAMOND, FLAG, FULL, FULL_TIES, NAMES, STEPS

COUNT = ("count",)
BOTH = ("pair", ("map", ("count",)), ("tops", 3, [(0, 2)]))
GEM = ("table", DIAMOND)
NEST = ("map", NAMES)
DEEP = ("later", ("row", 20), ("above", ("pair", FLAG, COUNT), ("later", COUNT, FLAG)))
DEEP_TEXT = "later row 20 above pair row 2 count later count row 2"

# Kinds and how they are written.
KIND_TEXTS = [
    (COUNT, "count"),
    (("row", 1), "row 1"),
    (("row", 20), "row 20"),
    (("tops", 0, []), "tops 0 -"),
    (("tops", 6, []), "tops 6 -"),
    (("tops", 3, [(0, 1), (1, 2)]), "tops 3 0<1,1<2"),
    (("tops", 3, [(1, 0), (2, 0), (2, 1)]), "tops 3 1<0,2<0,2<1"),
    (FULL, "tops 6 " + ",".join(f"{low}<{high}" for low, high in FULL_TIES)),
    (("table", [[0]]), "table 0"),
    (("table", [[0, 1], [1, 1]]), "table 0,1;1,1"),
    (GEM, "table 0,1,2,3,4;1,1,4,4,4;2,4,2,4,4;3,4,4,3,4;4,4,4,4,4"),
    (BAG, "map row 2"),
    (NEST, "map map count"),
    (BOTH, "pair map count tops 3 0<2"),
    (("later", COUNT, FLAG), "later count row 2"),
    (("above", ("table", [[0, 1], [1, 1]]), COUNT), "above table 0,1;1,1 count"),
    (DEEP, DEEP_TEXT),
    (("pair", ("pair", ("pair", FLAG, COUNT), COUNT), ("later", ("above", FLAG, COUNT), FLAG)),
     "pair pair pair row 2 count count later above row 2 count row 2"),
]
# Kinds, states of them and how these are written.
STATE_TEXTS = [
    (COUNT, 0, "0"),
    (COUNT, 10**29, "1" + "0" * 29),
    (("row", 20), 19, "19"),
    (GEM, 4, "4"),
    (STEPS, [], "[]"),
    (STEPS, [2], "[2]"),
    (STEPS, [0, 2], "[0,2]"),
    (NAMES, [], "{}"),
    (NAMES, [("a", 5)], "{a:5}"),
    (NAMES, [("a", 5), ("abcdefgh", 12), ("b", 1)], "{a:5,abcdefgh:12,b:1}"),
    (NEST, [("a", [("b", 2), ("c", 1)]), ("b", [("a", 1)])], "{a:{b:2,c:1},b:{a:1}}"),
    (BOTH, ([], []), "({},[])"),
    (BOTH, ([("a", 5)], [1, 2]), "({a:5},[1,2])"),
    (("map", BOTH), [("a", ([], [0])), ("b", ([("x", 1), ("y", 2)], [0, 1]))], "{a:({},[0]),b:({x:1,y:2},[0,1])}"),
    (("later", COUNT, ("later", FLAG, STEPS)), (3, (1, [0])), "(3,(1,[0]))"),
    (("above", COUNT, FLAG), ("low", 7), "low(7)"),
    (("above", COUNT, FLAG), ("high", 0), "high(0)"),
    (("above", FLAG, ("above", NAMES, STEPS)), ("high", ("low", [("a", 1)])), "high(low({a:1}))"),
    (("above", FLAG, BOTH), ("high", ([], [1, 2])), "high(({},[1,2]))"),
    (("map", ("above", FLAG, ("pair", COUNT, STEPS))), [("a", ("low", 1)), ("b", ("high", (3, [1, 2])))],
     "{a:low(1),b:high((3,[1,2]))}"),
    (DEEP, (19, ("low", (1, 7))), "(19,low((1,7)))"),
    (DEEP, (0, ("high", (4, 1))), "(0,high((4,1)))"),
]
# Kinds, views of them and how these are written.
VIEW_TEXTS = [
    (COUNT, ("same",), "same"),
    (NAMES, ("at", "abcdefgh"), "at abcdefgh"),
    (NAMES, ("some", []), "some -"),
    (NAMES, ("some", ["a"]), "some a"),
    (NAMES, ("some", ["c", "a", "b"]), "some c,a,b"),
    (NAMES, ("some", ["a", "b", "c", "d", "e", "f"]), "some a,b,c,d,e,f"),
    (NAMES, ("renamed", []), "renamed -"),
    (NAMES, ("renamed", [("a", "b")]), "renamed a>b"),
    (NAMES, ("renamed", [("b", "a"), ("a", "a"), ("c", "a")]), "renamed b>a,a>a,c>a"),
    (NAMES, ("joined",), "joined"),
    (BOTH, ("first",), "first"),
    (("later", COUNT, FLAG), ("first",), "first"),
    (BOTH, ("second",), "second"),
    (("above", COUNT, FLAG), ("upper",), "upper"),
    (NEST, ("values", ("at", "a")), "values at a"),
    (NEST, ("values", ("values", ("same",))), "values values same"),
    (BOTH, ("both", ("first",), ("same",)), "both first same"),
    (BOTH, ("then", ("first",), ("at", "a")), "then first at a"),
    (NEST, ("then", ("some", ["a", "b"]), ("both", ("joined",), ("values", ("joined",)))),
     "then some a,b both joined values joined"),
    (COUNT, ("then", ("then", ("then", ("then", ("same",), ("same",)), ("same",)), ("same",)), ("same",)),
     "then then then then same same same same same"),
    (COUNT, ("then", ("same",), ("then", ("same",), ("then", ("same",), ("then", ("same",), ("same",))))),
     "then same then same then same then same same"),
]
WEB_TEXTS = [
    ((1, []), "1 -"),
    ((6, []), "6 -"),
    ((2, [(0, 1)]), "2 0<1"),
    ((3, [(0, 1), (1, 2)]), "3 0<1,1<2"),
    ((6, FULL_TIES), "6 " + ",".join(f"{low}<{high}" for low, high in FULL_TIES)),
]
LOGS = [
    (COUNT, [], []),
    (("row", 3), [2, 0], ["2", "0"]),
    (NAMES, [[], [("a", 1)], [("a", 1)], [("b", 3), ("c", 1)]], ["{}", "{a:1}", "{a:1}", "{b:3,c:1}"]),
    (BOTH, [([], [2]), ([("a", 1)], [])], ["({},[2])", "({a:1},[])"]),
    (COUNT, list(range(40)), [str(many) for many in range(40)]),
]
QUESTIONS = [
    (NAMES, (("at", "a"), 2), "at a", "2"),
    (NAMES, (("same",), [("a", 1), ("b", 2)]), "same", "{a:1,b:2}"),
    (BOTH, (("both", ("second",), ("then", ("first",), ("joined",))), ([1], 4)), "both second then first joined", "([1],4)"),
    (("above", COUNT, FLAG), (("upper",), 0), "upper", "0"),
]


def text_of(kind):
    """How one of the kinds above is written."""
    told = dict((repr(kind), text) for kind, text in KIND_TEXTS)
    more = {repr(FLAG): "row 2", repr(("row", 3)): "row 3", repr(STEPS): "tops 3 0<1", repr(NAMES): "map count"}
    found = {**told, **more}
    if repr(kind) in found:
        return found[repr(kind)]
    return " ".join([kind[0]] + [text_of(inner) for inner in kind[1:]])


def forms():
    """Tuples of a sort, a value as told, and its written form."""
    found = [("kind", kind, f"kind {text}\n") for kind, text in KIND_TEXTS]
    for kind, state, text in STATE_TEXTS:
        found.append(("state", (kind, state), f"state {text_of(kind)}\nis {text}\n"))
    for kind, log, texts in LOGS:
        lines = "".join(f"entry {text}\n" for text in texts)
        found.append(("log", (kind, log), f"log {text_of(kind)}\n{lines}"))
    for kind, view, text in VIEW_TEXTS:
        found.append(("view", (kind, view), f"view {text_of(kind)}\nis {text}\n"))
    for kind, question, view, state in QUESTIONS:
        found.append(("question", (kind, question), f"question {text_of(kind)}\nsees {view}\nasks {state}\n"))
    return found + [("web", web, f"web {text}\n") for web, text in WEB_TEXTS]
