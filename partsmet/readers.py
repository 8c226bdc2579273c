"""Readers of written forms, which find the first line that is wrong.

The function above the line of dashes is the interface. Those below it read loosely, judge what they have read, and
write it again: a text that is not just what is written for its value is none.
"""

from partsmet.errors import InvalidText
from partsmet.kinds import INNER_KINDS, is_kind, kind_as_told
from partsmet.states import MOST_STATES_PASSED, fits, side_of
from partsmet.texts import kind_text, state_text, view_text, web_text
from partsmet.views import LENGTHS, NESTING, is_view_alone, is_view_of, kind_seen
from partsmet.webs import is_web, web_as_told

# Deeper than kinds and views may be nested, and no further, whatever a text says.
DEEPEST = 6
# With which words the lines of a form begin; a log has more of its second line, or none.
LINE_WORDS = {
    "kind": ("kind",),
    "state": ("state", "is"),
    "log": ("log", "entry"),
    "view": ("view", "is"),
    "question": ("question", "sees", "asks"),
    "web": ("web",),
}


def read(text):
    """The tuple of the sort and the value that has this written form."""
    if not isinstance(text, str):
        raise InvalidText(0)
    # Behind the last line feed nothing may stand: a line without one is wrong where it stands.
    lines = text.split("\n")
    found = []
    for line in lines[:-1]:
        value = line_value(found, line)
        if value is None:
            raise InvalidText(len(found) + 1)
        found.append(value)
    if lines[-1] != "" or not is_done(found):
        raise InvalidText(len(found) + 1)
    return (found[0][0], form_value(found))


# ----------------------------------------------------------------------------


def line_value(found, line):
    """What the line tells behind those of which this was found; None if it is wrong there."""
    word, _, rest = line.partition(" ")
    if len(found) == 0:
        return head_value(word, rest)
    sort, what = found[0]
    if word != word_behind(sort, len(found)):
        return None
    if word == "entry" or sort == "state":
        return read_state(what, rest)
    if word == "asks":
        return read_state(kind_seen(what, found[1]), rest)
    view = read_view(rest)
    return view if is_view_of(what, view) else None


def head_value(sort, rest):
    """What the first line tells: the tuple of the sort and a kind or a web; None if it is wrong."""
    if sort not in LINE_WORDS:
        return None
    what = read_web(rest) if sort == "web" else read_kind(rest)
    return None if what is None else (sort, what)


def word_behind(sort, many):
    """The word of the line behind so many of the sort; None if no line may stand there."""
    if sort == "log":
        return "entry" if many <= MOST_STATES_PASSED else None
    words = LINE_WORDS[sort]
    return words[many] if many < len(words) else None


def is_done(found):
    """Whether no line lacks behind those of which this was found."""
    if len(found) == 0:
        return False
    sort = found[0][0]
    return sort == "log" or len(found) == len(LINE_WORDS[sort])


def form_value(found):
    """The value of a form of whose lines this was found."""
    sort, what = found[0]
    if sort in ("kind", "web"):
        return what
    if sort == "log":
        return (what, found[1:])
    return (what, (found[1], found[2]) if sort == "question" else found[1])


def read_kind(text):
    """The told kind that is written so; None if none is."""
    kind, _ = kind_from(text.split(" "), DEEPEST)
    return kind if is_kind(kind) and kind_text(kind_as_told(kind)) == text else None


def read_state(kind, text):
    """The told state of the told kind that is written so; None if none is."""
    state = state_from(kind, text)
    return state if fits(kind, state) and state_text(kind, state) == text else None


def read_view(text):
    """The view, whatever kind it is of, that is written so; None if none is."""
    view, _ = view_from(text.split(" "), DEEPEST)
    return view if is_view_alone(view) and view_text(view) == text else None


def read_web(text):
    """The told web that is written so; None if none is."""
    many, _, ties = text.partition(" ")
    web = (count_from(many), ties_from(ties))
    return web if is_web(web) and web_text(web_as_told(web)) == text else None


def count_from(text):
    """The number that is told by digits; None if something else stands there."""
    return int(text) if text != "" and all(sign in "0123456789" for sign in text) else None


def pieces_from(text):
    """What stands between commas, a minus sign for nothing."""
    return [] if text == "-" else text.split(",")


def ties_from(text):
    """The tuples that ties tell."""
    return [tuple([count_from(number) for number in tie.split("<")]) for tie in pieces_from(text)]


def rows_from(text):
    """The rows that a table tells."""
    return [[count_from(number) for number in row.split(",")] for row in text.split(";")]


def kind_from(words, deep):
    """What the first words tell in the place of a kind, and the words behind them."""
    if deep == 0 or len(words) == 0:
        return (None, words)
    word, rest = words[0], words[1:]
    if word == "row":
        return ((word,) + tuple([count_from(text) for text in rest[:1]]), rest[1:])
    if word == "tops":
        many, ties = rest[:1], rest[1:2]
        return ((word,) + tuple([count_from(text) for text in many] + [ties_from(text) for text in ties]), rest[2:])
    if word == "table":
        return ((word,) + tuple([rows_from(text) for text in rest[:1]]), rest[1:])
    parts = [word]
    for _ in range(INNER_KINDS.get(word, 0)):
        inner, rest = kind_from(rest, deep - 1)
        parts.append(inner)
    return (tuple(parts), rest)


def state_from(kind, text):
    """What the text tells in the place of a state of the kind."""
    word = kind[0]
    if word == "tops":
        return [count_from(point) for point in loose_pieces(text[1:-1])]
    if word == "map":
        return [entry_from(kind[1], entry) for entry in loose_pieces(text[1:-1])]
    if word == "above":
        side, _, rest = text.partition("(")
        return (side, state_from(side_of(kind, side), rest[:-1]))
    if word in ("pair", "later"):
        return tuple([state_from(inner, piece) for inner, piece in zip(kind[1:], loose_pieces(text[1:-1]))])
    return count_from(text)


def entry_from(kind, text):
    """What the text tells in the place of an entry of a map of the kind."""
    name, _, rest = text.partition(":")
    return (name, state_from(kind, rest))


def loose_pieces(text):
    """What stands between the commas that stand in no brackets; nothing in an empty text."""
    found, piece, deep = [], "", 0
    for sign in text:
        if sign == "," and deep == 0:
            found.append(piece)
            piece = ""
            continue
        piece = piece + sign
        if sign in "([{":
            deep += 1
        if sign in ")]}":
            deep -= 1
    return found + [piece] if text != "" else []


def view_from(words, deep):
    """What the first words tell in the place of a view, and the words behind them."""
    if deep == 0 or len(words) == 0:
        return (None, words)
    word, rest = words[0], words[1:]
    parts = [word]
    for _ in range(LENGTHS.get(word, 1) - 1):
        if word in NESTING:
            inner, rest = view_from(rest, deep - 1)
        else:
            inner, rest = names_from(word, rest[0] if rest else ""), rest[1:]
        parts.append(inner)
    return (tuple(parts), rest)


def names_from(word, text):
    """What the text tells behind the word of a view that wants a name, names or pairs of them."""
    if word == "at":
        return text
    pieces = pieces_from(text)
    return pieces if word == "some" else [tuple(piece.split(">")) for piece in pieces]
