"""Webs: copies, and the ties between them.

The functions above the line of dashes are the interface: they check what they
are passed. Those below it want a web, unless they say otherwise.
"""

from partsmet.basics import is_count_below, is_integer, is_list
from partsmet.errors import InvalidCopy, InvalidWeb
from partsmet.points import is_tie

MOST_COPIES = 6


def is_web(value):
    """Whether the value is a web: how many copies it has, and its ties."""
    if not isinstance(value, tuple) or len(value) != 2:
        return False
    many, ties = value
    if not is_integer(many) or not 1 <= many <= MOST_COPIES or not is_list(ties):
        return False
    return all(is_tie(tie, many) and tie[0] < tie[1] for tie in ties) and len(set(ties)) == len(ties)


def told_web(web):
    """The web with its ties as a sorted list."""
    check_web(web)
    return web_as_told(web)


def neighbours(web, copy):
    """The sorted list of the copies that are tied to the copy."""
    check_web(web)
    if not is_count_below(copy, web[0]):
        raise InvalidCopy(copy)
    return neighbours_of(web, copy)


def is_joined(web):
    """Whether each copy comes to each one by ties."""
    check_web(web)
    reached, places = [0], [0]
    while places:
        places = [copy for copy in copies_of(web) if copy not in reached and is_tied_to_some(web, copy, places)]
        reached = reached + places
    return len(reached) == web[0]


def has_ring(web):
    """Whether the web has a ring."""
    check_web(web)
    return first_ring(web) is not None


def ring(web):
    """A ring of the web, one of the shortest; None if there is none."""
    check_web(web)
    return first_ring(web)


# ----------------------------------------------------------------------------


def check_web(value):
    """InvalidWeb unless any value is a web."""
    if not is_web(value):
        raise InvalidWeb(value)


def web_as_told(web):
    """The web with its ties as a sorted list."""
    return (web[0], sorted(web[1]))


def copies_of(web):
    """The copies of the web."""
    return list(range(web[0]))


def are_tied(web, one, other):
    """Whether the two copies are neighbours."""
    return (min(one, other), max(one, other)) in web[1]


def neighbours_of(web, copy):
    """The sorted list of the neighbours of the copy."""
    return [other for other in copies_of(web) if are_tied(web, copy, other)]


def is_tied_to_some(web, copy, others):
    """Whether the copy is a neighbour of one of the others."""
    return any(are_tied(web, copy, other) for other in others)


def first_ring(web):
    """The first one of the shortest rings; None if there is none."""
    paths = [[copy] for copy in copies_of(web)]
    while paths:
        for path in paths:
            if len(path) > 2 and are_tied(web, path[0], path[-1]):
                return path
        paths = [path + [copy] for path in paths for copy in neighbours_of(web, path[-1]) if copy not in path]
    return None
