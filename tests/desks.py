"""Helpers over desks for several tests."""

from partsmet.claims import is_claim, is_true
from partsmet.desk import Desk
from partsmet.errors import LimitError, MissingError, NothingToRedo, PartError, StateError, TooMany

OWN_ERRORS = (PartError, MissingError, StateError, LimitError)
LEAST = ("least", "notleast")


def made(*lines):
    """A desk that has done these deeds."""
    desk = Desk()
    desk.do_all(*lines)
    return desk


def failing(function, *args):
    """The error that the call raises, with its attributes; None without one."""
    try:
        function(*args)
    except OWN_ERRORS as error:
        return (error.__class__, vars(error))
    return None


def redone(desk):
    """The lines that can be done again, the next one first."""
    other, found = desk.copy(), []
    while True:
        try:
            found.append(other.do("redo"))
        except NothingToRedo:
            return found


def kept(desk):
    """What is kept under names, and noted under labels."""
    return ({name: desk[name] for name in desk.names}, {label: desk.do(f"claimed {label}") for label in desk.labels})


def shot(desk):
    """All that a desk tells of itself."""
    told = [(label, desk.do(f"state {label}"), desk.claim_of(label), desk.fits(label)) for label in desk.labels]
    return (kept(desk), told, desk.do("states"), desk.do("names"), len(desk), desk.lines(), redone(desk))


def states_of(desk):
    """The states of all labels."""
    return {label: desk.do(f"state {label}") for label in desk.labels}


def sort_of(thing):
    """The sort of a thing as a desk shows it: the tuple of a state and that of a log have a kind first."""
    return thing[0] if isinstance(thing[0], str) else "with a kind"


def state_by_hand(desk, label):
    """The state of the label, put together from the things of the desk; the names must be of the right sorts."""
    word, *names = desk.do(f"claimed {label}").split(" ")
    if not all(name in desk for name in names):
        return "gone"
    things = [desk[name] for name in names]
    if word in LEAST:
        if any(thing[0] != things[0][0] for thing in things):
            return "gone"
        claim = (word, things[0][0], *[thing[1] for thing in things])
    elif word in ("through", "notthrough"):
        claim = (word, things[0], things[1], things[2][1])
    else:
        claim = (word, *things)
    try:
        return ("true" if is_true(claim) else "false") if is_claim(claim) else "gone"
    except TooMany:
        return "gone"
