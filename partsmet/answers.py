"""Answers to the commands of a desk that change nothing.

Things and claims are dicts as told in deeds.py.
"""

from partsmet.deeds import handed
from partsmet.differences import lot_distance
from partsmet.grades import grade
from partsmet.joins import are_beside, is_at_most
from partsmet.kinds import state_count
from partsmet.labels import label_state, states_of_labels
from partsmet.logs import log_state, needless
from partsmet.orders import lot_count, ways_up
from partsmet.parts import is_part, part_list
from partsmet.texts import kind_text, state_text, view_text
from partsmet.views import view_kind, worth


def answer(things, claims, words, found):
    """The answer to the command of these words; found are the things that its names tell."""
    word = words[0]
    if word == "names":
        return " ".join(sorted(things)) or "-"
    if word == "states":
        return states_of_labels(things, claims)
    if word == "state":
        return label_state(things, claims[words[1]])
    if word == "claimed":
        return " ".join(list(claims[words[1]]))
    if word == "show":
        return shown(found[0])
    if word == "same":
        return yes_or_no(found[0] == found[1])
    kind, values = handed(found)
    if kind is None:
        return answer_of_kind(word, values[0])
    return answer_of_state(word, kind, values)


def shown(thing):
    """The thing as it is written."""
    sort, value = thing
    if sort == "kind":
        return kind_text(value)
    if sort == "view":
        return view_text(value)
    kind, inner = value
    states = [inner] if sort == "state" else inner
    return " ".join([kind_text(kind)] + [state_text(kind, state) for state in states])


def yes_or_no(fact):
    """How an answer tells whether it is so."""
    return "yes" if fact else "no"


def answer_of_kind(word, kind):
    """The answer to a command of which the part is a kind."""
    if word == "grade":
        return grade(kind)
    if word == "many":
        return str(state_count(kind))
    if word == "lots":
        return str(lot_count(kind))
    return str(ways_up(kind))


def answer_of_state(word, kind, values):
    """The answer to a command of which the parts are states or logs of the kind, perhaps behind a view."""
    if word == "part":
        return yes_or_no(is_part(kind, values[0]))
    if word == "parts":
        return " ".join([state_text(kind, part) for part in part_list(kind, values[0])]) or "-"
    if word == "atmost":
        return yes_or_no(is_at_most(kind, values[0], values[1]))
    if word == "beside":
        return yes_or_no(are_beside(kind, values[0], values[1]))
    if word == "distance":
        return str(lot_distance(kind, values[0], values[1]))
    if word == "sum":
        return state_text(kind, log_state(kind, values[0]))
    if word == "needless":
        return ",".join([str(place) for place in needless(kind, values[0])]) or "-"
    return state_text(view_kind(kind, values[0]), worth(kind, values[0], values[1]))
