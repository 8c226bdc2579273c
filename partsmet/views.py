"""Views of states: what of each state of a kind is looked at, a state of the view's own kind.

The functions above the line of dashes are the interface: they check what they
are passed. Those below it want a told kind and a view of it, unless they say otherwise.
"""

from partsmet.basics import are_map_names, copied, is_list, is_map_name
from partsmet.errors import InvalidView
from partsmet.joins import join_of_maps, joined_of
from partsmet.kinds import is_kind, kind_as_told, told_kind
from partsmet.states import checked_state, least_of

MOST_DEEP = 5
MOST_VIEWS = 12
MOST_NAMES = 6
# How many values a view of this word has, the word counted.
LENGTHS = {
    "same": 1,
    "at": 2,
    "some": 2,
    "renamed": 2,
    "joined": 1,
    "first": 1,
    "second": 1,
    "upper": 1,
    "values": 2,
    "both": 3,
    "then": 3,
}
# The words of views in which others stand.
NESTING = ("values", "both", "then")
# Of which kinds the views of a word are, where not of any.
SEEN = {
    "at": ("map",),
    "some": ("map",),
    "renamed": ("map",),
    "joined": ("map",),
    "values": ("map",),
    "first": ("pair", "later"),
    "second": ("pair",),
    "upper": ("above",),
}


def is_view(kind, value):
    """Whether the value is a view of the kind."""
    return is_view_of(told_kind(kind), value)


def view_kind(kind, view):
    """The view's own kind, as told."""
    told = told_kind(kind)
    check_view(told, view)
    return kind_as_told(kind_seen(told, view))


def worth(kind, view, state):
    """The worth of the state, a state of the view's own kind."""
    told = told_kind(kind)
    check_view(told, view)
    return copied(worth_of(told, view, checked_state(told, state)))


# ----------------------------------------------------------------------------


def check_view(kind, value):
    """InvalidView unless any value is a view of the kind."""
    if not is_view_of(kind, value):
        raise InvalidView(value)


def is_view_of(kind, value):
    """Whether any value is a view of the kind."""
    return is_view_alone(value) and goes_with(kind, value)


def is_view_alone(value):
    """Whether any value is a view by its words, its names and how views stand in it, whatever kind it is of."""
    return is_nested_view(value, MOST_DEEP) and views_within(value) <= MOST_VIEWS


def views_within(view):
    """How many views stand in the view, it counted."""
    if view[0] not in NESTING:
        return 1
    return 1 + sum([views_within(inner) for inner in view[1:]])


def is_nested_view(value, deep):
    """Whether any value is a view by its words and names, nested at most so deep, however many stand in it."""
    if deep == 0 or not has_view_form(value):
        return False
    if value[0] in NESTING:
        return all(is_nested_view(inner, deep - 1) for inner in value[1:])
    return has_view_names(value)


def goes_with(kind, view):
    """Whether what is a view by its words is one of the kind, and tells kinds alone on its way."""
    word = view[0]
    if kind[0] not in SEEN.get(word, (kind[0],)):
        return False
    if word == "values":
        return goes_with(kind[1], view[1]) and is_kind(kind_seen(kind, view))
    if word == "both":
        return all(goes_with(kind, inner) for inner in view[1:]) and is_kind(kind_seen(kind, view))
    if word == "then":
        return goes_with(kind, view[1]) and goes_with(kind_seen(kind, view[1]), view[2])
    return True


def has_view_form(value):
    """Whether any value is a tuple that begins with the word of a view and is as long as that wants."""
    if not isinstance(value, tuple) or len(value) == 0 or not isinstance(value[0], str):
        return False
    return len(value) == LENGTHS.get(value[0], 0)


def has_view_names(value):
    """Whether behind the word of a view in which no other one stands there are such names as it wants."""
    if value[0] == "at":
        return is_map_name(value[1])
    if value[0] == "some":
        return are_map_names(value[1], MOST_NAMES)
    if value[0] == "renamed":
        return are_name_pairs(value[1])
    return True


def are_name_pairs(value):
    """Whether any value is a list of tuples of two names, not too many, no first name twice."""
    if not is_list(value) or not all(isinstance(pair, tuple) and len(pair) == 2 for pair in value):
        return False
    return are_map_names([pair[0] for pair in value], MOST_NAMES) and all(is_map_name(pair[1]) for pair in value)


def kind_seen(kind, view):
    """The view's own kind."""
    word = view[0]
    if word in ("at", "joined", "first"):
        return kind[1]
    if word in ("second", "upper"):
        return kind[2]
    if word == "values":
        return ("map", kind_seen(kind[1], view[1]))
    if word == "both":
        return ("pair", kind_seen(kind, view[1]), kind_seen(kind, view[2]))
    if word == "then":
        return kind_seen(kind_seen(kind, view[1]), view[2])
    return kind


def view_names(view):
    """The names that stand in the view, as often as they stand there."""
    if view[0] == "at":
        return [view[1]]
    if view[0] == "some":
        return list(view[1])
    if view[0] == "renamed":
        return [name for pair in view[1] for name in pair]
    return [name for inner in view[1:] for name in view_names(inner)]


def worth_of(kind, view, state):
    """The worth of a told state; it may share lists with the state."""
    word = view[0]
    if word == "first":
        return state[0]
    if word == "second":
        return state[1]
    if word == "upper":
        return state[1] if state[0] == "high" else least_of(kind[2])
    if word == "both":
        return tuple([worth_of(kind, inner, state) for inner in view[1:]])
    if word == "then":
        return worth_of(kind_seen(kind, view[1]), view[2], worth_of(kind, view[1], state))
    return state if word == "same" else worth_of_map(kind[1], view, state)


def worth_of_map(kind, view, state):
    """The worth of a map's state; the kind is that of the states in the map."""
    word = view[0]
    if word == "at":
        return joined_of(kind, [inner for name, inner in state if name == view[1]])
    if word == "joined":
        return joined_of(kind, [inner for _, inner in state])
    if word == "some":
        return [(name, inner) for name, inner in state if name in view[1]]
    if word == "renamed":
        return renamed_map(kind, view[1], state)
    least = least_of(kind_seen(kind, view[1]))
    worths = [(name, worth_of(kind, view[1], inner)) for name, inner in state]
    return [(name, each) for name, each in worths if each != least]


def renamed_map(kind, pairs, state):
    """A map's state with each first name of a pair as the second one, all at once."""
    names = {first: second for first, second in pairs}
    total = []
    for name, inner in state:
        total = join_of_maps(kind, total, [(names.get(name, name), inner)])
    return total
