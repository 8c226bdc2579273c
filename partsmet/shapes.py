"""Shapes: finitely many parts of a kind at which views that are not the same have unlike worths.

The functions above the line of dashes are the interface: they check what they
are passed. Those below it want a told kind and views of it, unless they say otherwise.
"""

from partsmet.basics import are_map_names, copied, is_count
from partsmet.errors import InvalidMany, InvalidNames, TooMany, UnlikeKinds
from partsmet.grades import check_single
from partsmet.kinds import told_kind
from partsmet.parts import part, shape_count, shapes_of
from partsmet.states import fits, state_as_told
from partsmet.views import check_view, kind_seen, view_names, worth_of

MOST_SHAPES = 600
MOST_NAMES = 8
MOST_COUNTED = 6
LETTERS = "abcdefghijklmnopqrstuvwxyz"


def shapes(kind, names, many):
    """The sorted list of the shapes of the kind with these names, counts to many."""
    told = told_kind(kind)
    if not are_map_names(names, MOST_NAMES) or list(names) != sorted(names):
        raise InvalidNames(names)
    if not is_count(many) or not 1 <= many <= MOST_COUNTED:
        raise InvalidMany(many)
    check_single(told)
    check_shape_count(told, len(names), many)
    return copied(sorted(shapes_of(told, names, many)))


def are_one(kind, view, other):
    """Whether the two views of the kind have one worth of each state."""
    told = told_kind(kind)
    check_two_views(told, view, other)
    return len(partings_of(told, view, other)) == 0


def parting(kind, view, other):
    """A part of the kind of which the two views have unlike worths; None if they are the same."""
    told = told_kind(kind)
    check_two_views(told, view, other)
    found = partings_of(told, view, other)
    return copied(found[0]) if found else None


def is_parting(kind, view, other, value):
    """Whether the value is a part of the kind of which the two views have unlike worths."""
    told = told_kind(kind)
    check_two_views(told, view, other)
    if not fits(told, value):
        return False
    state = state_as_told(told, value)
    return part(told, state) and parts_views(told, view, other, state)


# ----------------------------------------------------------------------------


def check_two_views(kind, view, other):
    """The errors of the two values, unless they are views of one kind of a kind with single lists."""
    check_view(kind, view)
    check_view(kind, other)
    check_single(kind)
    if kind_seen(kind, view) != kind_seen(kind, other):
        raise UnlikeKinds()


def check_shape_count(kind, wide, many):
    """TooMany if the kind has too many shapes with so many names, counts to many."""
    if shape_count(kind, wide, many) > MOST_SHAPES:
        raise TooMany("shapes", MOST_SHAPES)


def parts_views(kind, view, other, state):
    """Whether the worths of the state by the two views are unlike."""
    return worth_of(kind, view, state) != worth_of(kind, other, state)


def partings_of(kind, view, other):
    """Those of the shapes that tell all of which the two views have unlike worths."""
    found = enough_shapes(kind, view_names(view) + view_names(other), 2)
    return [shape for shape in found if parts_views(kind, view, other, shape)]


def enough_shapes(kind, names, many):
    """The shapes with the names and as many further ones as maps stand in one another in the kind."""
    known, further = sorted(set(names)), maps_deep(kind)
    check_shape_count(kind, len(known) + further, many)
    # There are more of these names than shapes, so enough of them are further ones.
    pool = [one + two for one in LETTERS for two in LETTERS]
    fresh = [name for name in pool if name not in known]
    return shapes_of(kind, known + fresh[:further], many)


def maps_deep(kind):
    """How many maps at the most stand in one another in the kind."""
    word = kind[0]
    if word == "map":
        return 1 + maps_deep(kind[1])
    if word in ("pair", "later", "above"):
        return max(maps_deep(kind[1]), maps_deep(kind[2]))
    return 0
