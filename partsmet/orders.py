"""Finite kinds with least differences, told by the order of their parts.

The functions above the line of dashes are the interface: they check what they
are passed. Those below it want a told kind, unless they say otherwise.
"""

from partsmet.basics import copied, is_count_below, is_list
from partsmet.errors import Endless, InvalidPositions, TooMany
from partsmet.grades import check_even
from partsmet.joins import at_most, joined_of
from partsmet.kinds import count_of, finite, told_kind
from partsmet.parts import shape_count, shapes_of
from partsmet.states import checked_state

MOST_PARTS = 10


def kind_parts(kind):
    """The sorted list of the parts of the kind."""
    return copied(parts_in_order(told_kind(kind)))


def part_order(kind):
    """The sorted list of all tuples of two positions of parts, the first part below the second one."""
    told = told_kind(kind)
    return order_of(told, parts_in_order(told))


def lot_count(kind):
    """How many lower lots the kind has."""
    told = told_kind(kind)
    check_order(told)
    # Each state is the join of just one lower lot.
    return count_of(told)


def ways_up(kind):
    """How many sequences of all parts there are with each part behind all below it."""
    told = told_kind(kind)
    parts = parts_in_order(told)
    return count_ways(len(parts), order_of(told, parts))


def part_lot(kind, state):
    """The rising list of the positions of the parts that are at most the state."""
    told = told_kind(kind)
    goal = checked_state(told, state)
    return lot_of(told, parts_in_order(told), goal)


def lot_state(kind, positions):
    """The join of the parts of a lower lot."""
    told = told_kind(kind)
    parts = parts_in_order(told)
    if not is_lower_lot(len(parts), order_of(told, parts), positions):
        raise InvalidPositions(positions)
    return copied(joined_of(told, [parts[place] for place in positions]))


# ----------------------------------------------------------------------------


def check_finite_even(kind):
    """Endless unless the kind is finite, NotEven unless it has least differences."""
    if not finite(kind):
        raise Endless()
    check_even(kind)


def check_part_count(kind, most):
    """TooMany if the finite kind has more parts than the most."""
    if shape_count(kind, 0, 0) > most:
        raise TooMany("parts", most)


def check_order(kind):
    """The errors of a kind that is endless, has no least differences, or has too many parts."""
    check_finite_even(kind)
    check_part_count(kind, MOST_PARTS)


def sorted_parts(kind):
    """All parts of the finite kind, sorted; they may share lists."""
    return sorted(shapes_of(kind, [], 0))


def parts_in_order(kind):
    """All parts of the kind, sorted, behind the errors of the kind; they may share lists."""
    check_order(kind)
    return sorted_parts(kind)


def lot_of(kind, parts, state):
    """The rising list of the positions of those of the parts that are at most the state."""
    return [place for place, each in enumerate(parts) if at_most(kind, each, state)]


def order_of(kind, parts):
    """The sorted list of the tuples of two positions, the one part at most the other one and unlike."""
    places = list(range(len(parts)))
    pairs = [(low, high) for low in places for high in places if low != high]
    return [(low, high) for low, high in pairs if at_most(kind, parts[low], parts[high])]


def is_lower_lot(many, order, value):
    """Whether any value is a rising list of positions of so many parts, with each one all those below it."""
    if not is_list(value) or not all(is_count_below(place, many) for place in value):
        return False
    if list(value) != sorted(set(value)):
        return False
    return all(low in value for low, high in order if high in value)


def count_ways(many, order):
    """How many ways up there are over so many parts: lots are the bits of a number, from the empty one up."""
    below = [sum([1 << low for low, high in order if high == place]) for place in range(many)]
    counts = [0] * (1 << many)
    counts[0] = 1
    for lot in range(1 << many):
        for place in range(many):
            bit = 1 << place
            if (lot & bit) == 0 and (lot & below[place]) == below[place]:
                counts[lot + bit] += counts[lot]
    return counts[-1]
