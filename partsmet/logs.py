"""Logs: lists of states, their entries, of which the join is the state of the log.

The functions above the line of dashes are the interface: they check what they
are passed. Those below it want a told kind and told entries, unless they say otherwise.
"""

from partsmet.basics import copied
from partsmet.differences import difference_of
from partsmet.errors import InvalidLog
from partsmet.grades import check_even
from partsmet.joins import at_most, join_of, joined_of
from partsmet.kinds import told_kind
from partsmet.parts import told_list
from partsmet.states import are_states, checked_state, least_of, states_as_told


def log_state(kind, log):
    """The join of the log's entries."""
    told = told_kind(kind)
    return copied(joined_of(told, checked_log(told, log)))


def beginnings(kind, log):
    """The states of the log's first 0, 1, 2, .. entries."""
    told = told_kind(kind)
    states = [least_of(told)]
    for entry in checked_log(told, log):
        states.append(join_of(told, states[-1], entry))
    return copied(states)


def needless(kind, log):
    """The sorted list of the positions of the entries that are at most the join of all others."""
    told = told_kind(kind)
    entries = checked_log(told, log)
    return [place for place in range(len(entries)) if is_needless(told, entries, place)]


def part_log(kind, log):
    """The told list of the log's state."""
    told = told_kind(kind)
    return copied(told_list(told, joined_of(told, checked_log(told, log))))


def fresh_log(kind, log):
    """The least differences of the entries over all ahead of them, least states left out."""
    told = told_kind(kind)
    entries = checked_log(told, log)
    check_even(told)
    return copied(fresh_behind(told, least_of(told), entries))


def added(kind, log, other):
    """The log's entries, and behind them what the other log's entries have over all ahead of them."""
    told = told_kind(kind)
    entries, further = checked_log(told, log), checked_log(told, other)
    check_even(told)
    return copied(entries + fresh_behind(told, joined_of(told, entries), further))


def forgotten(kind, log, state):
    """The log's entries that are not at most the state."""
    told = told_kind(kind)
    entries = checked_log(told, log)
    held = checked_state(told, state)
    return [entry for entry in entries if not at_most(told, entry, held)]


def is_log_of(kind, state, value):
    """Whether the value is a log of the kind whose state this is."""
    told = told_kind(kind)
    goal = checked_state(told, state)
    return are_states(told, value) and joined_of(told, states_as_told(told, value)) == goal


# ----------------------------------------------------------------------------


def checked_log(kind, value):
    """Any value as a list of told entries: InvalidLog unless it is a log of the kind."""
    if not are_states(kind, value):
        raise InvalidLog(value)
    return states_as_told(kind, value)


def is_needless(kind, entries, place):
    """Whether the entry at the place is at most the join of all others."""
    return at_most(kind, entries[place], joined_of(kind, entries[:place] + entries[place + 1:]))


def fresh_behind(kind, ahead, entries):
    """The least differences of the entries over all ahead of them, least ones left out; at first that state."""
    total, found = ahead, []
    for entry in entries:
        fresh = difference_of(kind, entry, total)
        if fresh != least_of(kind):
            found.append(fresh)
        total = join_of(kind, total, entry)
    return found
