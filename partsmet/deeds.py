"""What deeds make of the things that are kept under names.

Things are a dict: under each name a tuple of a sort, "kind", "state", "log" or "view", and a told value. Claims are a
dict: under each label a tuple of the words of the claim. Nothing here changes what it is passed.
"""

from partsmet.basics import copied
from partsmet.commands import WRITTEN, told_thing
from partsmet.differences import difference
from partsmet.errors import LabelTaken, NameTaken, TooMany, UnknownLabel, UnknownName, UnlikeKinds
from partsmet.joins import join
from partsmet.logs import added, forgotten, fresh_log, part_log

MOST_NAMES = 12
MOST_ENTRIES = 40
# Sorts of which the values are tuples of a kind and what is of it.
WITH_KIND = ("state", "log")


def found_things(things, claims, uses):
    """The things of the names that are used as some; the errors of names and labels that are not free or not there.

    A use is a sort, "any", "like" (the thing ahead), "new" (a free name), "label", or "mark" (a free label).
    """
    found = []
    for use, name in uses:
        if use == "new":
            if name in things:
                raise NameTaken(name)
        elif use == "mark":
            if name in claims:
                raise LabelTaken(name)
        elif use == "label":
            if name not in claims:
                raise UnknownLabel(name)
        else:
            found.append(found_thing(things, found[-1][0] if use == "like" else use, name))
    return found


def found_thing(things, sort, name):
    """The thing of the sort that is kept under the name."""
    if name not in things or sort not in ("any", things[name][0]):
        raise UnknownName(name)
    return things[name]


def handed(found):
    """The kind of the states and logs among the things, None without one, and the values without their kinds."""
    kinds = [value[0] for sort, value in found if sort in WITH_KIND]
    if any(kind != kinds[0] for kind in kinds):
        raise UnlikeKinds()
    values = [value[1] if sort in WITH_KIND else value for sort, value in found]
    return (copied(kinds[0]) if kinds else None, copied(values))


def things_behind(things, words, found):
    """The things that are kept behind the deed; found are those that its names tell."""
    word, name = words[0], words[1]
    if word in ("claim", "forget"):
        return things
    if word == "drop":
        return {each: things[each] for each in things if each != name}
    behind = {**things, name: thing_made(words, found)}
    if len(behind) > MOST_NAMES:
        raise TooMany("names", MOST_NAMES)
    return behind


def thing_made(words, found):
    """The thing that the deed keeps under its first name."""
    word = words[0]
    if word in WRITTEN:
        return told_thing(word, words[2:])
    if word == "copy":
        return found[0]
    kind, values = handed(found)
    if word in ("join", "grow"):
        return ("state", (kind, join(kind, values[0], values[1])))
    if word == "less":
        return ("state", (kind, difference(kind, values[0], values[1])))
    entries = entries_made(word, kind, values)
    if len(entries) > MOST_ENTRIES:
        raise TooMany("entries", MOST_ENTRIES)
    return ("log", (kind, entries))


def entries_made(word, kind, values):
    """The entries of the log that the deed makes of one."""
    if word == "note":
        return values[0] + [values[1]]
    if word == "thin":
        return fresh_log(kind, values[0])
    if word == "split":
        return part_log(kind, values[0])
    if word == "strip":
        return forgotten(kind, values[0], values[1])
    return added(kind, values[0], values[1])
