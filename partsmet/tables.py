"""Tables of joins: their parts, lists, meets and differences.

The functions above the line of dashes are the interface: they check what they
are passed. Those below it want a table and states of it, and check nothing.
"""

from partsmet.basics import is_count_below, is_list
from partsmet.errors import InvalidNumber, InvalidTable

MOST_STATES = 8


def is_table(value):
    """Whether the value is a table: the joins of its states, row by row."""
    return has_table_form(value) and keeps_join_rules(value)


def table_parts(table):
    """The rising list of the parts of the table."""
    check_table(table)
    return parts_in(table)


def needed(table, number):
    """The rising list of the parts that are needed for the state."""
    check_table(table)
    check_number(table, number)
    below = parts_below(table, number)
    return [part for part in below if not joins_to(table, without(below, part), number)]


def all_lists(table, number):
    """The sorted list of all lists of the state, each rising."""
    check_table(table)
    check_number(table, number)
    return lists_of(table, number)


def has_single_lists(table):
    """Whether each state has just one list."""
    check_table(table)
    return all(len(lists_of(table, number)) == 1 for number in range(len(table)))


def two_lists(table):
    """The first state with two lists or more, and its first two; None without one."""
    check_table(table)
    for number in range(len(table)):
        lists = lists_of(table, number)
        if len(lists) > 1:
            return (number, lists[0], lists[1])
    return None


def meet(table, one, other):
    """The greatest state that is at most both."""
    check_table(table)
    check_number(table, one)
    check_number(table, other)
    return meet_of(table, one, other)


def is_distributive(table):
    """Whether meets go through the joins of the table."""
    check_table(table)
    states = range(len(table))
    meets = meet_rows(table)
    for one in states:
        for other in states:
            for third in states:
                whole = meets[one][table[other][third]]
                if whole != table[meets[one][other]][meets[one][third]]:
                    return False
    return True


def has_differences(table):
    """Whether any two states have a least difference."""
    check_table(table)
    states = list(range(len(table)))
    return all(least_difference(table, one, other) is not None for one in states for other in states)


def table_difference(table, one, other):
    """The least difference of one over other; None if there is none."""
    check_table(table)
    check_number(table, one)
    check_number(table, other)
    return least_difference(table, one, other)


def two_differences(table):
    """The first two states without a least difference, and their first two bare ones; None without such."""
    check_table(table)
    for one in range(len(table)):
        for other in range(len(table)):
            if least_difference(table, one, other) is None:
                bare = bare_differences(table, one, other)
                return (one, other, bare[0], bare[1])
    return None


# ----------------------------------------------------------------------------


def check_table(table):
    """InvalidTable unless it is a table."""
    if not is_table(table):
        raise InvalidTable(table)


def check_number(table, number):
    """InvalidNumber unless it is a state of the table."""
    if not is_count_below(number, len(table)):
        raise InvalidNumber(number)


def has_table_form(value):
    """Whether the value is a square of 1 to 8 rows of COUNTS below their number."""
    if not is_list(value) or not 1 <= len(value) <= MOST_STATES:
        return False
    return all(is_row(row, len(value)) for row in value)


def is_row(value, many):
    """Whether the value is a list of as many COUNTS below that number."""
    if not is_list(value) or len(value) != many:
        return False
    return all(is_count_below(number, many) for number in value)


def keeps_join_rules(rows):
    """Whether the square of COUNTS is that of a join with 0 as the least state."""
    states = range(len(rows))
    for one in states:
        if rows[one][one] != one or rows[one][0] != one:
            return False
        for other in states:
            if rows[one][other] != rows[other][one]:
                return False
            for third in states:
                if rows[rows[one][other]][third] != rows[one][rows[other][third]]:
                    return False
    return True


def lies_within(table, one, other):
    """Whether the one state is at most the other one."""
    return table[one][other] == other


def states_within(table, number):
    """The states that are at most the state."""
    return [state for state in range(len(table)) if lies_within(table, state, number)]


def without(numbers, number):
    """The numbers but that one."""
    return [each for each in numbers if each != number]


def joined_numbers(table, numbers):
    """The join of the states."""
    total = 0
    for number in numbers:
        total = table[total][number]
    return total


def joins_to(table, numbers, goal):
    """Whether the join of the states is the goal."""
    return joined_numbers(table, numbers) == goal


def is_part_in(table, number):
    """Whether the state is a part: not the least one, and no join of two lesser ones."""
    lesser = without(states_within(table, number), number)
    met = any(table[one][other] == number for one in lesser for other in lesser)
    return number != 0 and not met


def parts_in(table):
    """The rising list of the parts."""
    return [number for number in range(len(table)) if is_part_in(table, number)]


def parts_below(table, number):
    """The rising list of the parts that are at most the state."""
    return [part for part in parts_in(table) if lies_within(table, part, number)]


def is_list_of(table, parts, number):
    """Whether the parts join to the state, and without any one of them do not."""
    if not joins_to(table, parts, number):
        return False
    return not any(joins_to(table, without(parts, part), number) for part in parts)


def lists_of(table, number):
    """The sorted list of all lists of the state, each rising."""
    lots = [[]]
    for part in parts_below(table, number):
        lots = lots + [lot + [part] for lot in lots]
    return sorted([lot for lot in lots if is_list_of(table, lot, number)])


def meet_of(table, one, other):
    """The join of all states that are at most both."""
    both = [state for state in states_within(table, one) if lies_within(table, state, other)]
    return joined_numbers(table, both)


def meet_rows(table):
    """The meets of all states, row by row."""
    states = range(len(table))
    return [[meet_of(table, one, other) for other in states] for one in states]


def differences_of(table, one, other):
    """The rising list of the differences of the one state over the other one."""
    return [state for state in range(len(table)) if lies_within(table, one, table[state][other])]


def least_difference(table, one, other):
    """The difference that is at most each other one; None if there is none."""
    found = differences_of(table, one, other)
    for state in found:
        if all(lies_within(table, state, each) for each in found):
            return state
    return None


def bare_differences(table, one, other):
    """The rising list of the differences below which there is no lesser one."""
    found = differences_of(table, one, other)
    return [state for state in found if not any(lies_within(table, each, state) for each in without(found, state))]
