"""Parts of states, and the lists of parts that states are made of.

The functions above the line of dashes are the interface: they check what they
are passed. Those below it want a told kind and told states, and check nothing.
"""

from partsmet.basics import copied, is_list
from partsmet.joins import at_most, joined_of
from partsmet.kinds import count_of, told_kind
from partsmet.states import checked_state, checked_states, fits, least_of, side_of, states_as_told, states_of
from partsmet.tables import is_part_in, lists_of, parts_in


def is_part(kind, state):
    """Whether the state is a part of the kind."""
    told = told_kind(kind)
    return part(told, checked_state(told, state))


def part_list(kind, state):
    """The told list of the state."""
    told = told_kind(kind)
    return copied(told_list(told, checked_state(told, state)))


def lacked(kind, one, other):
    """The parts that the one state has and the other one lacks, sorted."""
    told = told_kind(kind)
    return copied(parts_lacked(told, checked_state(told, one), checked_state(told, other)))


def thinned(kind, states):
    """The states, without those that are at most the join of all others that are still there."""
    told = told_kind(kind)
    return thinned_of(told, checked_states(told, states))


def is_part_list(kind, state, value):
    """Whether the value is a list of the state, in any sequence."""
    told = told_kind(kind)
    return is_list_in(told, checked_state(told, state), value)


# ----------------------------------------------------------------------------


def is_list_in(kind, goal, value):
    """Whether any value is a list of the goal, in any sequence."""
    if not is_list(value) or not all(fits(kind, each) for each in value):
        return False
    return makes_up(kind, states_as_told(kind, value), goal)


def part(kind, state):
    """Whether the state is a part of the kind."""
    word = kind[0]
    if word == "table":
        return is_part_in(kind[1], state)
    if word == "tops":
        return len(state) == 1
    if word == "map":
        return len(state) == 1 and part(kind[1], state[0][1])
    if word == "pair":
        return is_part_of_pair(kind, state)
    if word == "later":
        return is_part_of_later(kind, state)
    if word == "above":
        return state == ("high", least_of(kind[2])) or part(side_of(kind, state[0]), state[1])
    return state != 0


def is_part_of_pair(kind, state):
    """Whether one side is a part and the other one the least state."""
    if state[0] == least_of(kind[1]):
        return part(kind[2], state[1])
    return state[1] == least_of(kind[2]) and part(kind[1], state[0])


def is_part_of_later(kind, state):
    """Whether the second side is a part, or the least state behind a part."""
    if state[1] == least_of(kind[2]):
        return part(kind[1], state[0])
    return part(kind[2], state[1])


def told_list(kind, state):
    """The told list of the state; its parts may have lists in common."""
    word = kind[0]
    if word == "tops":
        return [[point] for point in state]
    if word == "table":
        return shortest(lists_of(kind[1], state))
    if word == "map":
        return [[(name, each)] for name, inner in state for each in told_list(kind[1], inner)]
    if word == "pair":
        return told_list_of_pair(kind, state)
    if word == "later":
        return told_list_of_later(kind, state)
    if word == "above":
        return told_list_of_above(kind, state)
    return [state] if state != 0 else []


def shortest(lists):
    """The first one of the lists with the fewest parts."""
    return min(lists, key=len)


def told_list_of_pair(kind, state):
    """The parts of both sides, each beside the least state."""
    first = [(each, least_of(kind[2])) for each in told_list(kind[1], state[0])]
    second = [(least_of(kind[1]), each) for each in told_list(kind[2], state[1])]
    return sorted(first + second)


def told_list_of_later(kind, state):
    """The parts of the second side, each behind the first one; without such those of the first side."""
    least = least_of(kind[2])
    if state[1] == least:
        return [(each, least) for each in told_list(kind[1], state[0])]
    return [(state[0], each) for each in told_list(kind[2], state[1])]


def told_list_of_above(kind, state):
    """The parts on the side of the state; the least high state has no lesser ones there and is a part."""
    if state == ("high", least_of(kind[2])):
        return [state]
    return [(state[0], each) for each in told_list(side_of(kind, state[0]), state[1])]


def parts_lacked(kind, one, other):
    """The parts of the one state's told list that are not at most the other one."""
    return [each for each in told_list(kind, one) if not at_most(kind, each, other)]


def thinned_of(kind, states):
    """The states, without those that are at most the join of all others that are still there."""
    kept, place = states, 0
    while place < len(kept):
        others = kept[:place] + kept[place + 1:]
        if at_most(kind, kept[place], joined_of(kind, others)):
            kept = others
        else:
            place += 1
    return kept


def makes_up(kind, parts, goal):
    """Whether these are parts, each one wanted, whose join is the goal."""
    if not all(part(kind, each) for each in parts) or joined_of(kind, parts) != goal:
        return False
    return len(thinned_of(kind, parts)) == len(parts)


def shape_count(kind, wide, many):
    """How many shapes with so many names, counts to many, the kind has; of a finite kind, how many parts."""
    word = kind[0]
    if word == "count":
        return many
    if word == "row":
        return kind[1] - 1
    if word == "tops":
        return kind[1]
    if word == "table":
        return len(parts_in(kind[1]))
    if word == "map":
        return wide * shape_count(kind[1], wide, many)
    firsts, seconds = shape_count(kind[1], wide, many), shape_count(kind[2], wide, many)
    if word == "later":
        # Only without seconds may the first side be one of which not all states are counted.
        return firsts + count_of(kind[1], many) * seconds
    return firsts + 1 + seconds if word == "above" else firsts + seconds


def shapes_of(kind, names, many):
    """The shapes with these names, counts to many; of a finite kind all parts; some may share lists."""
    word = kind[0]
    if word == "count":
        return list(range(1, many + 1))
    if word == "row":
        return list(range(1, kind[1]))
    if word == "tops":
        return [[point] for point in range(kind[1])]
    if word == "table":
        return parts_in(kind[1])
    if word == "map":
        return [[(name, each)] for name in names for each in shapes_of(kind[1], names, many)]
    firsts, seconds = shapes_of(kind[1], names, many), shapes_of(kind[2], names, many)
    if word == "above":
        return [("low", each) for each in firsts] + [("high", each) for each in [least_of(kind[2])] + seconds]
    found = [(each, least_of(kind[2])) for each in firsts]
    # Without seconds the first side may have far too many states to be gone through.
    bases = states_of(kind[1], many) if word == "later" and seconds else [least_of(kind[1])]
    return found + [(base, each) for base in bases for each in seconds]
