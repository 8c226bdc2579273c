"""Grades of kinds: whether all their states have single lists, and least differences.

The functions above the line of dashes are the interface: they check what they
are passed. Those below it want a told kind, and check nothing of ways and states.
"""

from partsmet.basics import copied, is_list
from partsmet.errors import InvalidWay, NotEven, NotSingle
from partsmet.kinds import in_line, kind_as_told, single, told_kind
from partsmet.states import checked_state, least_of
from partsmet.tables import has_single_lists, is_distributive

# The words that lead from a kind of this word to the kinds within it, in their sequence there.
WAY_WORDS = {"map": ("inner",), "pair": ("first", "second"), "later": ("first", "second"), "above": ("low", "high")}


def grade(kind):
    """The grade of the kind: "differences", "lists" or "neither"."""
    return grade_of(told_kind(kind))


def ways(kind):
    """The sorted list of the ways of the kind."""
    return sorted(ways_of(told_kind(kind)))


def kind_at(kind, way):
    """The kind at the way, as told."""
    told = told_kind(kind)
    check_way(told, way)
    return kind_as_told(kind_along(told, way))


def led_out(kind, way, state):
    """The state of the kind that has the state at the way, and all else least."""
    told = told_kind(kind)
    check_way(told, way)
    return copied(led_out_of(told, way, checked_state(kind_along(told, way), state)))


# ----------------------------------------------------------------------------


def check_way(kind, value):
    """InvalidWay unless any value is a way of the kind."""
    if not is_way(kind, value):
        raise InvalidWay(value)


def check_even(kind):
    """NotEven unless any two states of the kind have a least difference."""
    if grade_of(kind) != "differences":
        raise NotEven()


def check_single(kind):
    """NotSingle unless each state of the kind has just one list."""
    if grade_of(kind) == "neither":
        raise NotSingle()


def words_from(kind):
    """The words that lead from the kind to those directly within it."""
    return list(WAY_WORDS.get(kind[0], ()))


def kind_by(kind, word):
    """The kind to which one of these words leads."""
    return kind[1 + words_from(kind).index(word)]


def is_way(kind, value):
    """Whether any value is a way of the kind."""
    if not is_list(value):
        return False
    inner = kind
    for word in value:
        if word not in words_from(inner):
            return False
        inner = kind_by(inner, word)
    return True


def kind_along(kind, way):
    """The kind at the way."""
    inner = kind
    for word in way:
        inner = kind_by(inner, word)
    return inner


def ways_of(kind):
    """All ways of the kind, each one ahead of those that go on from it."""
    found = [[]]
    for word in words_from(kind):
        found = found + [[word] + rest for rest in ways_of(kind_by(kind, word))]
    return found


def led(kind, word, state):
    """The state of the kind that has the state where the word leads, and all else least."""
    if word == "inner":
        return [] if state == least_of(kind[1]) else [("a", state)]
    if word == "first":
        return (state, least_of(kind[2]))
    if word == "second":
        return (least_of(kind[1]), state)
    return (word, state)


def led_out_of(kind, way, state):
    """The state led out, the last word of the way first; it may share lists with the one passed."""
    if len(way) == 0:
        return state
    inner = led_out_of(kind_by(kind, way[0]), way[1:], state)
    return led(kind, way[0], inner)


def is_good(kind, word):
    """Whether the kind, but for those within it, is good for "lists" or "differences"."""
    if kind[0] == "table":
        return has_single_lists(kind[1]) if word == "lists" else is_distributive(kind[1])
    return kind[0] != "later" or in_line(kind[1]) or single(kind[2])


def bad_ways(kind, word):
    """The ways to kinds that are not good for "lists" or "differences"."""
    return [way for way in ways_of(kind) if not is_good(kind_along(kind, way), word)]


def grade_of(kind):
    """The grade of the kind."""
    if len(bad_ways(kind, "differences")) == 0:
        return "differences"
    return "lists" if len(bad_ways(kind, "lists")) == 0 else "neither"
