"""Joins of states, and the order that they tell.

The functions above the line of dashes are the interface: they check what they
are passed. Those below it want a told kind and told states, and check nothing.
"""

from partsmet.kinds import told_kind
from partsmet.points import below_rows, tops_among
from partsmet.states import checked_state, checked_states, least_of, side_of


def join(kind, one, other):
    """The join of two states."""
    told = told_kind(kind)
    return join_of(told, checked_state(told, one), checked_state(told, other))


def joined(kind, states):
    """The join of all the states, the least state of none."""
    told = told_kind(kind)
    return joined_of(told, checked_states(told, states))


def is_at_most(kind, one, other):
    """Whether the one state is at most the other one."""
    told = told_kind(kind)
    return at_most(told, checked_state(told, one), checked_state(told, other))


def are_beside(kind, one, other):
    """Whether neither of the two states is at most the other one."""
    told = told_kind(kind)
    return beside(told, checked_state(told, one), checked_state(told, other))


# ----------------------------------------------------------------------------


def join_of(kind, one, other):
    """The join of two states."""
    word = kind[0]
    if word == "table":
        return kind[1][one][other]
    if word == "tops":
        return tops_among(below_rows(kind[1], kind[2]), sorted(set(one + other)))
    if word == "map":
        return join_of_maps(kind[1], one, other)
    if word == "pair":
        return (join_of(kind[1], one[0], other[0]), join_of(kind[2], one[1], other[1]))
    if word == "later":
        return join_of_later(kind, one, other)
    if word == "above":
        return join_of_above(kind, one, other)
    return max(one, other)


def join_of_maps(kind, one, other):
    """For each name the join of what stands under it; the kind is that of the map's states."""
    found = {name: state for name, state in one}
    for name, state in other:
        found[name] = join_of(kind, found[name], state) if name in found else state
    return [(name, found[name]) for name in sorted(found)]


def join_of_later(kind, one, other):
    """The second sides count only where the first sides do not tell which state goes ahead."""
    first = join_of(kind[1], one[0], other[0])
    if one[0] == other[0]:
        return (first, join_of(kind[2], one[1], other[1]))
    if first == one[0]:
        return one
    if first == other[0]:
        return other
    return (first, least_of(kind[2]))


def join_of_above(kind, one, other):
    """A high state goes ahead of a low one; two on one side join there."""
    if one[0] == other[0]:
        return (one[0], join_of(side_of(kind, one[0]), one[1], other[1]))
    return one if one[0] == "high" else other


def joined_of(kind, states):
    """The join of all the states, the least state of none."""
    total = least_of(kind)
    for state in states:
        total = join_of(kind, total, state)
    return total


def at_most(kind, one, other):
    """Whether the one state is at most the other one."""
    return join_of(kind, one, other) == other


def beside(kind, one, other):
    """Whether neither of the two states is at most the other one."""
    return not at_most(kind, one, other) and not at_most(kind, other, one)
