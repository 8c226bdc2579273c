"""Runs: what the copies of a web come to by growing, sending letters and hearing them.

The functions above the line of dashes are the interface: they check what they
are passed. Those below it want a told kind, a web and a told run, unless they say otherwise.
"""

from partsmet.basics import copied, is_count, is_count_below, is_list
from partsmet.differences import difference_of
from partsmet.errors import InvalidMany, InvalidRun, InvalidWord, NoRing
from partsmet.grades import check_even
from partsmet.joins import at_most, join_of, joined_of
from partsmet.kinds import told_kind
from partsmet.parts import told_list
from partsmet.states import fits, least_of, state_as_told
from partsmet.webs import are_tied, check_web, copies_of, first_ring, neighbours_of

WAYS = ("whole", "since", "back", "known")
MOST_EVENTS = 48
MOST_LAPS = 3
# Six copies that are all neighbours: what may be grown hangs on nothing else of a web.
FULL_WEB = (
    6,
    (
        (0, 1),
        (0, 2),
        (0, 3),
        (0, 4),
        (0, 5),
        (1, 2),
        (1, 3),
        (1, 4),
        (1, 5),
        (2, 3),
        (2, 4),
        (2, 5),
        (3, 4),
        (3, 5),
        (4, 5),
    ),
)
# One name for each state that the laps of a round run grow, two a lap.
LAP_NAMES = "abcdefgh"


def played(kind, web, word, run):
    """The copies' states, the letters, and the heaps that are not least states, behind the run by the way."""
    told, events = checked_run(kind, web, word, run)
    states, letters, heaps = play(told, web, word, events)
    return copied((states, letters, full_heaps(told, heaps)))


def settled(kind, web, word, run):
    """Whether behind the run by the way all heaps are least states, and each letter was heard."""
    told, events = checked_run(kind, web, word, run)
    _, letters, heaps = play(told, web, word, events)
    heard = [event[1] for event in events if event[0] == "hear"]
    return len(full_heaps(told, heaps)) == 0 and all(number in heard for number in range(len(letters)))


def grown(kind, run):
    """The join of all states that were grown."""
    told, events = checked_run(kind, FULL_WEB, "whole", run)
    return copied(joined_of(told, grown_states(events)))


def is_fresh(kind, run):
    """Whether no part of a grown state's list is at most the join of the states grown ahead of it."""
    told, events = checked_run(kind, FULL_WEB, "whole", run)
    total = least_of(told)
    for state in grown_states(events):
        if any(at_most(told, each, total) for each in told_list(told, state)):
            return False
        total = join_of(told, total, state)
    return True


def crossings(kind, web, word, run):
    """The sorted list of the tuples (from, to, part, times): how often parts cross ties by the way."""
    told, events = checked_run(kind, web, word, run)
    _, letters, _ = play(told, web, word, events)
    crossed = [(source, goal, part) for source, goal, content in letters for part in told_list(told, content)]
    found = []
    for each in sorted(crossed):
        if found and found[-1][:3] == each:
            found[-1] = each + (found[-1][3] + 1,)
        else:
            found.append(each + (1,))
    return copied(found)


def round_run(web, many):
    """A fresh run of maps of flags in which by "back" a part crosses a tie one way more than many times."""
    check_web(web)
    if not is_count(many) or many > MOST_LAPS:
        raise InvalidMany(many)
    around = first_ring(web)
    if around is None:
        raise NoRing()
    # The last lap only goes over the first tie.
    events = [event for lap in range(many) for event in lap_around(around, lap)]
    return events + lap_around(around, many)[:2]


# ----------------------------------------------------------------------------


def checked_run(kind, web, word, run):
    """The kind and the run as told, behind the errors of all four values and of an uneven kind."""
    told = told_kind(kind)
    check_web(web)
    if word not in WAYS:
        raise InvalidWord(word)
    if not is_run(told, web, run):
        raise InvalidRun(run)
    check_even(told)
    return (told, [event_as_told(told, event) for event in run])


def is_run(kind, web, value):
    """Whether any value is a list of events, not too many, that hears letters only behind their sends."""
    if not is_list(value) or len(value) > MOST_EVENTS:
        return False
    sent = 0
    for event in value:
        if not is_event(kind, web, sent, event):
            return False
        if event[0] == "send":
            sent += 1
    return True


def is_event(kind, web, sent, value):
    """Whether any value is an event behind so many sends."""
    if not isinstance(value, tuple) or len(value) < 2:
        return False
    if value[0] == "hear":
        return len(value) == 2 and is_count_below(value[1], sent)
    if len(value) != 3 or not is_count_below(value[1], web[0]):
        return False
    if value[0] == "grow":
        return fits(kind, value[2])
    return value[0] == "send" and is_count_below(value[2], web[0]) and are_tied(web, value[1], value[2])


def event_as_told(kind, event):
    """An event of a run with its state as told."""
    if event[0] == "grow":
        return (event[0], event[1], state_as_told(kind, event[2]))
    return event


def grown_states(events):
    """The states that the events grow, in their sequence."""
    return [event[2] for event in events if event[0] == "grow"]


def play(kind, web, word, events):
    """The states, the letters, and a dict of all heaps, behind the events by the way."""
    least = least_of(kind)
    states = [least for _ in copies_of(web)]
    heaps = {(copy, other): least for copy in copies_of(web) for other in neighbours_of(web, copy)}
    letters = []
    for event in events:
        if event[0] == "send":
            tie = event[1:]
            letters.append((tie[0], tie[1], heaps[tie]))
            heaps[tie] = least
            continue
        source, copy, coming = letters[event[1]] if event[0] == "hear" else (None, event[1], event[2])
        ahead = states[copy]
        if at_most(kind, coming, ahead):
            continue
        states[copy] = join_of(kind, coming, ahead)
        put = what_is_put(kind, word, event[0], coming, ahead)
        for other in neighbours_of(web, copy):
            if word in ("whole", "since") or other != source:
                heaps[(copy, other)] = join_of(kind, heaps[(copy, other)], put)
    return (states, letters, heaps)


def what_is_put(kind, word, event_word, coming, ahead):
    """What is put on heaps by the way when that state comes to a copy of which the other one was the state."""
    if word == "whole":
        return join_of(kind, coming, ahead)
    if event_word == "grow" or word == "known":
        return difference_of(kind, coming, ahead)
    return coming


def full_heaps(kind, heaps):
    """The sorted list of the tuples (copy, neighbour, heap) of the heaps that are not least states."""
    least = least_of(kind)
    return sorted([(copy, other, heap) for (copy, other), heap in heaps.items() if heap != least])


def lap_around(around, lap):
    """Events of one lap of a round run: all that was grown goes once around the ring, and two new names with it.

    By "back" a letter is sent on only where it holds something new. So the first copy of the ring grows a name that
    is new to all others, and the last one a name that is new to the first one.
    """
    ties = list(zip(around, around[1:] + around[:1]))
    letter = lap * len(ties)
    events = []
    for place, tie in enumerate(ties):
        if place == 0:
            events.append(("grow", tie[0], [(LAP_NAMES[2 * lap], 1)]))
        if place == len(ties) - 1:
            events.append(("grow", tie[0], [(LAP_NAMES[2 * lap + 1], 1)]))
        events.append(("send", tie[0], tie[1]))
        events.append(("hear", letter + place))
    return events
