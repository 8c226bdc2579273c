"""Differences of states, and how many parts lie between two states of a finite kind.

The functions above the line of dashes are the interface: they check what they
are passed. Those below it want a told kind and told states, and check nothing.
"""

from partsmet.basics import copied
from partsmet.errors import Endless, TooMany
from partsmet.grades import check_even
from partsmet.joins import at_most, join_of, joined_of
from partsmet.kinds import finite, told_kind
from partsmet.parts import parts_lacked, shape_count, shapes_of
from partsmet.states import checked_state, fits, state_as_told

MOST_PARTS = 200


def difference(kind, one, other):
    """The least difference of the one state over the other one."""
    told = told_kind(kind)
    first, second = checked_state(told, one), checked_state(told, other)
    check_even(told)
    return copied(difference_of(told, first, second))


def is_difference(kind, one, other, value):
    """Whether the value is a difference of the one state over the other one."""
    told = told_kind(kind)
    first, second = checked_state(told, one), checked_state(told, other)
    if not fits(told, value):
        return False
    return at_most(told, first, join_of(told, state_as_told(told, value), second))


def is_least_difference(kind, one, other, value):
    """Whether the value is the least difference of the one state over the other one."""
    told = told_kind(kind)
    first, second = checked_state(told, one), checked_state(told, other)
    check_even(told)
    return fits(told, value) and state_as_told(told, value) == difference_of(told, first, second)


def lot_distance(kind, one, other):
    """How many parts of the kind are at most just one of the two states."""
    told = told_kind(kind)
    first, second = checked_state(told, one), checked_state(told, other)
    if not finite(told):
        raise Endless()
    if shape_count(told, 0, 0) > MOST_PARTS:
        raise TooMany("parts", MOST_PARTS)
    apart = [each for each in shapes_of(told, [], 0) if at_most(told, each, first) != at_most(told, each, second)]
    return len(apart)


# ----------------------------------------------------------------------------


def difference_of(kind, one, other):
    """The least difference of the one state over the other one, of a kind that has it."""
    return joined_of(kind, parts_lacked(kind, one, other))
