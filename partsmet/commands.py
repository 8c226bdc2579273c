"""Commands of a desk: which strings are some, by their words alone.

The functions above the line of dashes are the interface. Those below it want the words of a command, or of a claim.
"""

from partsmet.readers import read_kind, read_state, read_view

LONGEST_NAME = 8
# The uses of the names behind the word of a deed: NEW, a thing of a sort, any thing, or a label.
DEEDS = {
    "kind": ("new",),
    "put": ("new",),
    "log": ("new",),
    "view": ("new",),
    "join": ("new", "state", "state"),
    "less": ("new", "state", "state"),
    "grow": ("state", "state"),
    "note": ("log", "state"),
    "thin": ("log",),
    "split": ("log",),
    "strip": ("log", "state"),
    "after": ("new", "log", "log"),
    "copy": ("new", "any"),
    "drop": ("any",),
    "forget": ("label",),
}
# The same behind the words of claims; in the deed the word "claim" and the label stand ahead of these.
CLAIMS = {
    "even": ("kind",),
    "uneven": ("kind",),
    "single": ("kind",),
    "double": ("kind",),
    "one": ("kind", "view", "view"),
    "parted": ("kind", "view", "view"),
    "through": ("kind", "view", "state"),
    "notthrough": ("kind", "view", "state"),
    "alike": ("kind", "kind"),
    "unlike": ("kind", "kind"),
    "least": ("state", "state", "state"),
    "notleast": ("state", "state", "state"),
}
# The same behind the words of all other commands; "like" is a thing of the sort of the one ahead.
OTHERS = {
    "undo": (),
    "redo": (),
    "state": ("label",),
    "states": (),
    "claimed": ("label",),
    "names": (),
    "show": ("any",),
    "same": ("any", "like"),
    "grade": ("kind",),
    "many": ("kind",),
    "lots": ("kind",),
    "ways": ("kind",),
    "part": ("state",),
    "parts": ("state",),
    "atmost": ("state", "state"),
    "beside": ("state", "state"),
    "distance": ("state", "state"),
    "sum": ("log",),
    "needless": ("log",),
    "worth": ("view", "state"),
}
# Behind the NEW of these stands more than names.
WRITTEN = ("kind", "put", "log", "view")


def is_name(value):
    """Whether the value is a name of a desk: one to eight small letters and digits, the first one a letter."""
    if not isinstance(value, str) or not 1 <= len(value) <= LONGEST_NAME:
        return False
    return "a" <= value[0] <= "z" and all("a" <= sign <= "z" or "0" <= sign <= "9" for sign in value)


def is_command(value):
    """Whether the value is a string that is a command by its words alone."""
    if not isinstance(value, str):
        return False
    first, *rest = value.split(" ")
    return is_deed(value) or first in OTHERS and are_names_for(OTHERS[first], rest)


def is_deed(value):
    """Whether the value is a string that is a deed by its words alone."""
    if not isinstance(value, str):
        return False
    first, *rest = value.split(" ")
    if first == "claim":
        return len(rest) > 1 and is_name(rest[0]) and rest[1] in CLAIMS and are_names_for(CLAIMS[rest[1]], rest[2:])
    if first in WRITTEN:
        return len(rest) > 1 and is_name(rest[0]) and told_thing(first, rest[1:]) is not None
    return first in DEEDS and are_names_for(DEEDS[first], rest)


# ----------------------------------------------------------------------------


def are_names_for(uses, values):
    """Whether the strings are names, and as many as there are uses for them."""
    return len(values) == len(uses) and all(is_name(value) for value in values)


def told_thing(word, rest):
    """The thing, a tuple of its sort and value, that such a deed keeps for the words behind its NEW; None if none."""
    if word == "view":
        view = read_view(" ".join(rest))
        return None if view is None else ("view", view)
    kind = read_kind(" ".join(rest[:-1] if word == "put" else rest))
    if kind is None or word == "kind":
        return None if kind is None else ("kind", kind)
    if word == "log":
        return ("log", (kind, []))
    state = read_state(kind, rest[-1])
    return None if state is None else ("state", (kind, state))


def is_deed_word(word):
    """Whether the commands that begin with this word are deeds."""
    return word == "claim" or word in DEEDS


def uses_of(words):
    """The tuples of the use and the name of the names in the command, but for those in a claim, in their sequence."""
    if words[0] == "claim":
        return [("mark", words[1])]
    uses = DEEDS[words[0]] if words[0] in DEEDS else OTHERS[words[0]]
    return list(zip(uses, words[1:]))


def uses_of_claim(words):
    """The tuples of the sort and the name of all names in the words of a claim."""
    return list(zip(CLAIMS[words[0]], words[1:]))
