"""States of kinds: which values are one, the least, the greatest and all of them.

The functions above the line of dashes are the interface: they check what they
are passed. Those below it want a told kind, unless they say otherwise.
"""

from partsmet.basics import copied, is_count, is_count_below, is_list, is_map_name
from partsmet.errors import InvalidState, InvalidStates
from partsmet.kinds import count_within, single, told_kind
from partsmet.points import below_rows, is_loose, loose_lots, tops_among
from partsmet.tables import joined_numbers

MOST_STATES_LISTED = 100
MOST_STATES_PASSED = 40


def is_state(kind, value):
    """Whether the value is a state of the kind."""
    return fits(told_kind(kind), value)


def least_state(kind):
    """The least state of the kind."""
    return least_of(told_kind(kind))


def told_state(kind, state):
    """The state as told, lists for lists."""
    return checked_state(told_kind(kind), state)


def greatest_state(kind):
    """The state that each state is at most; None if there is none."""
    return greatest_of(told_kind(kind))


def all_states(kind):
    """All states of the kind, sorted."""
    told = told_kind(kind)
    count_within(told, MOST_STATES_LISTED)
    return sorted([copied(state) for state in states_of(told)])


# ----------------------------------------------------------------------------


def checked_state(kind, value):
    """The value as a told state: InvalidState unless it is a state of the kind."""
    if not fits(kind, value):
        raise InvalidState(value)
    return state_as_told(kind, value)


def checked_states(kind, value):
    """The value as a list of told states: InvalidStates unless it is such a list."""
    if not are_states(kind, value):
        raise InvalidStates(value)
    return states_as_told(kind, value)


def are_states(kind, value):
    """Whether any value is a list of states of the kind, of as many as may be passed at once."""
    if not is_list(value) or len(value) > MOST_STATES_PASSED:
        return False
    return all(fits(kind, state) for state in value)


def fits(kind, value):
    """Whether any value is a state of the kind."""
    word = kind[0]
    if word == "count":
        return is_count(value)
    if word == "row":
        return is_count_below(value, kind[1])
    if word == "table":
        return is_count_below(value, len(kind[1]))
    if word == "tops":
        return is_tops_state(kind, value)
    if word == "map":
        return is_map_state(kind, value)
    if not isinstance(value, tuple) or len(value) != 2:
        return False
    if word == "above":
        return is_above_state(kind, value)
    return fits(kind[1], value[0]) and fits(kind[2], value[1])


def is_tops_state(kind, value):
    """Whether any value is a rising list of points of which none is below another one."""
    if not is_list(value) or not all(is_count_below(point, kind[1]) for point in value):
        return False
    if list(value) != sorted(set(value)):
        return False
    return is_loose(below_rows(kind[1], kind[2]), value)


def is_map_state(kind, value):
    """Whether any value is a list of entries of the map, sorted by their names, none twice."""
    if not is_list(value) or not all(is_entry(kind[1], entry) for entry in value):
        return False
    names = [entry[0] for entry in value]
    return names == sorted(set(names))


def is_entry(kind, value):
    """Whether any value is a tuple of a name and a state of the kind, but not its least one."""
    if not isinstance(value, tuple) or len(value) != 2:
        return False
    if not is_map_name(value[0]) or not fits(kind, value[1]):
        return False
    return state_as_told(kind, value[1]) != least_of(kind)


def is_above_state(kind, value):
    """Whether any pair is a word and a state of the kind of that word."""
    if value[0] == "low":
        return fits(kind[1], value[1])
    return value[0] == "high" and fits(kind[2], value[1])


def state_as_told(kind, state):
    """Any state of the kind as told, made anew."""
    word = kind[0]
    if word == "tops":
        return list(state)
    if word == "map":
        return [(name, state_as_told(kind[1], inner)) for name, inner in state]
    if word == "above":
        return (state[0], state_as_told(side_of(kind, state[0]), state[1]))
    if word in ("pair", "later"):
        return (state_as_told(kind[1], state[0]), state_as_told(kind[2], state[1]))
    return state


def states_as_told(kind, states):
    """A list of states of the kind, each one as told, made anew."""
    return [state_as_told(kind, state) for state in states]


def side_of(kind, word):
    """The kind of the states of an above that begin with this word."""
    return kind[1] if word == "low" else kind[2]


def inner_states(kind, state):
    """What stands directly within a state, as tuples of a kind and a state of it."""
    word = kind[0]
    if word == "map":
        return [(kind[1], inner) for _, inner in state]
    if word == "above":
        return [(side_of(kind, state[0]), state[1])]
    if word in ("pair", "later"):
        return [(kind[1], state[0]), (kind[2], state[1])]
    return []


def least_of(kind):
    """The least state of the kind."""
    word = kind[0]
    if word in ("tops", "map"):
        return []
    if word == "above":
        return ("low", least_of(kind[1]))
    if word in ("pair", "later"):
        return (least_of(kind[1]), least_of(kind[2]))
    return 0


def greatest_of(kind):
    """The state that each state is at most; None if there is none."""
    word = kind[0]
    if word == "row":
        return kind[1] - 1
    if word == "tops":
        return tops_among(below_rows(kind[1], kind[2]), list(range(kind[1])))
    if word == "table":
        return joined_numbers(kind[1], list(range(len(kind[1]))))
    if word == "map":
        return [] if single(kind) else None
    if word == "above":
        high = greatest_of(kind[2])
        return None if high is None else ("high", high)
    if word in ("pair", "later"):
        first, second = greatest_of(kind[1]), greatest_of(kind[2])
        return None if first is None or second is None else (first, second)
    return None


def states_of(kind, most=0):
    """All states in which no count is above the most; each map in the kind is single; some may share lists."""
    word = kind[0]
    if word == "count":
        return list(range(most + 1))
    if word == "row":
        return list(range(kind[1]))
    if word == "tops":
        return loose_lots(kind[1], kind[2])
    if word == "table":
        return list(range(len(kind[1])))
    if word == "map":
        return [[]]
    ones, others = states_of(kind[1], most), states_of(kind[2], most)
    if word == "above":
        return [("low", one) for one in ones] + [("high", other) for other in others]
    return [(one, other) for one in ones for other in others]
