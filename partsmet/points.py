"""Points in an order that is told by ties, and lots of them of which none is below another one."""

from partsmet.basics import is_count_below, is_integer, is_list

MOST_POINTS = 6
MOST_TIES = 15


def is_order(many, ties):
    """Whether the ties of so many points are told rightly and nobody comes back along them."""
    if not is_integer(many) or not 0 <= many <= MOST_POINTS:
        return False
    if not is_list(ties) or len(ties) > MOST_TIES:
        return False
    if not all(is_tie(tie, many) for tie in ties):
        return False
    below = below_rows(many, ties)
    return not any(below[point][point] for point in range(many))


def is_tie(value, many):
    """Whether the value is a tuple of two COUNTS below many."""
    if not isinstance(value, tuple) or len(value) != 2:
        return False
    return is_count_below(value[0], many) and is_count_below(value[1], many)


def below_rows(many, ties):
    """Rows of bools: whether one point is below another one, rows[low][high]."""
    points = range(many)
    rows = [[(one, other) in ties for other in points] for one in points]
    for middle in points:
        for low in points:
            for high in points:
                if rows[low][middle] and rows[middle][high]:
                    rows[low][high] = True
    return rows


def tops_among(below, points):
    """Those of the points that are below no other one of them."""
    return [low for low in points if not any(below[low][high] for high in points)]


def is_loose(below, points):
    """Whether none of the points is below another one."""
    return len(tops_among(below, points)) == len(points)


def loose_lots(many, ties):
    """The sorted list of all rising lists of points of which none is below another one."""
    below = below_rows(many, ties)
    lots = [[]]
    for point in range(many):
        lots = lots + [lot + [point] for lot in lots]
    return sorted([lot for lot in lots if is_loose(below, lot)])
