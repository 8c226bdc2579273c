"""Culprits: what in a kind gives a state two lists, or takes least differences from two states.

The functions above the line of dashes are the interface: they check what they
are passed. Those below it want a told kind, and check only what is told as any value.
"""

from partsmet.basics import copied, is_count_below
from partsmet.errors import InvalidCulprit, InvalidWord
from partsmet.grades import bad_ways, is_way, kind_along, kind_by, led, led_out_of, words_from
from partsmet.joins import beside, join_of
from partsmet.kinds import in_line, single, told_kind
from partsmet.parts import is_list_in, thinned_of, told_list
from partsmet.states import fits, least_of, state_as_told
from partsmet.tables import lies_within, two_differences, two_lists

WORDS = ("lists", "differences")


def culprit(kind, word):
    """A culprit of the kind for "lists" or "differences"; None if there is none."""
    told = told_kind(kind)
    check_word(word)
    found = bad_ways(told, word)
    if len(found) == 0:
        return None
    return copied((found[0], paper_of_bad(kind_along(told, found[0]), word)))


def is_culprit(kind, word, value):
    """Whether the value is a culprit of the kind for "lists" or "differences"."""
    told = told_kind(kind)
    check_word(word)
    return is_culprit_of(told, word, value)


def lists_by(kind, value):
    """The state of the kind that a culprit for lists tells, and two lists of it, sorted."""
    told = told_kind(kind)
    check_culprit(told, "lists", value)
    way, paper = value
    inner = kind_along(told, way)
    state, one, other = lists_of_later(inner, paper) if inner[0] == "later" else paper
    lists = [sorted([led_out_of(told, way, each) for each in parts]) for parts in (one, other)]
    return copied((led_out_of(told, way, state), lists[0], lists[1]))


def differences_by(kind, value):
    """The states one, other, d, e of the kind that a culprit for differences tells."""
    told = told_kind(kind)
    check_culprit(told, "differences", value)
    way, paper = value
    inner = kind_along(told, way)
    states = differences_of_later(inner, paper) if inner[0] == "later" else paper
    return copied(tuple([led_out_of(told, way, each) for each in states]))


# ----------------------------------------------------------------------------


def check_word(value):
    """InvalidWord unless any value is one of the two words."""
    if value not in WORDS:
        raise InvalidWord(value)


def check_culprit(kind, word, value):
    """InvalidCulprit unless any value is a culprit of the kind for the word."""
    if not is_culprit_of(kind, word, value):
        raise InvalidCulprit(value)


def is_tuple_of(value, many):
    """Whether any value is a tuple of so many."""
    return isinstance(value, tuple) and len(value) == many


def is_culprit_of(kind, word, value):
    """Whether any value is a culprit of the kind for the word."""
    if not is_tuple_of(value, 2) or not is_way(kind, value[0]):
        return False
    inner = kind_along(kind, value[0])
    if inner[0] == "later":
        return is_paper_of_later(inner, value[1])
    if inner[0] != "table":
        return False
    return is_paper_of_lists(inner, value[1]) if word == "lists" else is_paper_of_differences(inner[1], value[1])


def is_paper_of_later(kind, value):
    """Whether any value is two states beside one another on the first side, and one of the second, not the least."""
    if not is_tuple_of(value, 3) or not fits(kind[1], value[0]) or not fits(kind[1], value[1]):
        return False
    one, other = state_as_told(kind[1], value[0]), state_as_told(kind[1], value[1])
    if not beside(kind[1], one, other) or not fits(kind[2], value[2]):
        return False
    return state_as_told(kind[2], value[2]) != least_of(kind[2])


def is_paper_of_lists(kind, value):
    """Whether any value is a state of the kind, a table, and two unlike lists of it."""
    if not is_tuple_of(value, 3) or not fits(kind, value[0]):
        return False
    if not all(is_list_in(kind, value[0], parts) for parts in value[1:]):
        return False
    return sorted(value[1]) != sorted(value[2])


def is_paper_of_differences(table, value):
    """Whether any value is two states and two differences of them, with none that is at most both."""
    if not is_tuple_of(value, 4) or not all(is_count_below(each, len(table)) for each in value):
        return False
    one, other, first, second = value
    found = [each for each in range(len(table)) if lies_within(table, one, table[each][other])]
    if first not in found or second not in found:
        return False
    return not any(lies_within(table, each, first) and lies_within(table, each, second) for each in found)


def paper_of_bad(kind, word):
    """A paper for a table or a later that is not good for the word."""
    if kind[0] == "table":
        return two_lists(kind[1]) if word == "lists" else two_differences(kind[1])
    one, other = two_beside(kind[1])
    return (one, other, some_more(kind[2]))


def some_more(kind):
    """A state, not the least one, of a kind that is not single."""
    if kind[0] == "tops":
        return [0]
    if kind[0] == "above":
        return ("high", least_of(kind[2]))
    for word in words_from(kind):
        if not single(kind_by(kind, word)):
            return led(kind, word, some_more(kind_by(kind, word)))
    return 1


def two_beside(kind):
    """Two states beside one another, of a kind that is no line."""
    if kind[0] == "tops":
        return first_beside(kind, [[point] for point in range(kind[1])])
    if kind[0] == "table":
        return first_beside(kind, list(range(len(kind[1]))))
    if kind[0] == "map":
        return tuple([[(name, some_more(kind[1]))] for name in ("a", "b")])
    sides = words_from(kind)
    if kind[0] == "pair" and not any(single(kind_by(kind, word)) for word in sides):
        return tuple([led(kind, word, some_more(kind_by(kind, word))) for word in sides])
    word = [each for each in sides if not in_line(kind_by(kind, each))][0]
    return tuple([led(kind, word, each) for each in two_beside(kind_by(kind, word))])


def first_beside(kind, states):
    """The first two of the states that are beside one another."""
    pairs = [(one, other) for one in states for other in states if beside(kind, one, other)]
    return pairs[0]


def lists_of_later(kind, paper):
    """The state of a later that its paper tells, and two lists of it."""
    one, other = [state_as_told(kind[1], each) for each in paper[:2]]
    least, more = least_of(kind[2]), told_list(kind[2], state_as_told(kind[2], paper[2]))[0]
    firsts = thinned_of(kind[1], told_list(kind[1], one) + told_list(kind[1], other))
    rest = [(each, least) for each in firsts[1:]]
    state = (join_of(kind[1], one, other), least)
    return (state, [(firsts[0], least)] + rest, [(firsts[0], more)] + rest)


def differences_of_later(kind, paper):
    """The states one, other, d, e of a later that its paper tells."""
    one, other = [state_as_told(kind[1], each) for each in paper[:2]]
    least, more = least_of(kind[2]), state_as_told(kind[2], paper[2])
    return ((one, more), (one, least), (one, more), (other, least))
