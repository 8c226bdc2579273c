"""Finite kinds that are alike: whose parts stand in one order, but for their positions.

The functions above the line of dashes are the interface: they check what they
are passed. Those below it want a told kind, unless they say otherwise.
"""

from partsmet.basics import copied, is_count_below, is_list
from partsmet.errors import InvalidRenaming
from partsmet.grades import grade_of
from partsmet.joins import joined_of
from partsmet.kinds import finite, told_kind
from partsmet.orders import check_finite_even, check_part_count, lot_of, order_of, sorted_parts
from partsmet.parts import shape_count
from partsmet.states import checked_state

MOST_PARTS = 6


def renaming(kind, other):
    """The first renaming of the one kind to the other one; None if there is none."""
    told, told_other = told_kind(kind), told_kind(other)
    check_two_orders(told, told_other)
    rows, other_rows = below_table(told), below_table(told_other)
    for value in sequences(len(rows)):
        if renames(rows, other_rows, value):
            return value
    return None


def is_renaming(kind, other, value):
    """Whether the value is a renaming of the one kind to the other one."""
    told, told_other = told_kind(kind), told_kind(other)
    check_two_orders(told, told_other)
    return renames(below_table(told), below_table(told_other), value)


def least_table(kind):
    """The least table of the order of the kind's parts, over all sequences of them."""
    told = told_kind(kind)
    check_finite_even(told)
    check_part_count(told, MOST_PARTS)
    rows = below_table(told)
    return min([rearranged(rows, places) for places in sequences(len(rows))])


def led_state(kind, other, value, state):
    """The state of the other kind to which the renaming leads the state of the kind."""
    told, told_other = told_kind(kind), told_kind(other)
    check_two_orders(told, told_other)
    if not renames(below_table(told), below_table(told_other), value):
        raise InvalidRenaming(value)
    lot = lot_of(told, sorted_parts(told), checked_state(told, state))
    parts = sorted_parts(told_other)
    return copied(joined_of(told_other, [parts[value[place]] for place in lot]))


# ----------------------------------------------------------------------------


def check_two_orders(kind, other):
    """The errors of kinds that are endless, have no least differences, or have too many parts, which come last."""
    check_finite_even(kind)
    check_finite_even(other)
    check_part_count(kind, MOST_PARTS)
    check_part_count(other, MOST_PARTS)


def has_few_parts(kind):
    """Whether the kind is one that may be asked for a renaming."""
    return finite(kind) and grade_of(kind) == "differences" and shape_count(kind, 0, 0) <= MOST_PARTS


def below_table(kind):
    """Rows of numbers: 1 at [low][high] if the part at low is below the part at high, else 0."""
    parts = sorted_parts(kind)
    order, places = order_of(kind, parts), list(range(len(parts)))
    return [[1 if (low, high) in order else 0 for high in places] for low in places]


def sequences(many):
    """All sequences of the COUNTS below many, sorted."""
    found = [[]]
    for _ in range(many):
        found = [places + [place] for places in found for place in range(many) if place not in places]
    return found


def rearranged(rows, places):
    """The rows of numbers with what stands at those places, in that sequence."""
    return [[rows[low][high] for high in places] for low in places]


def renames(rows, other_rows, value):
    """Whether any value leads from the one table of what is below what to the other one."""
    many = len(rows)
    if len(other_rows) != many or not is_list(value) or len(value) != many:
        return False
    if not all(is_count_below(place, many) for place in value) or len(set(value)) != many:
        return False
    return rearranged(other_rows, value) == rows
