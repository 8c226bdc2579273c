"""Kinds: which values are one, what they are told as, and how many states they have.

The functions above the line of dashes are the interface: they check what they
are passed. Those below it want a told kind, unless they say otherwise.
"""

from partsmet.basics import is_integer
from partsmet.errors import Endless, InvalidKind, TooMany
from partsmet.points import below_rows, is_order, loose_lots
from partsmet.tables import is_table

# How many kinds stand directly within a kind of this word.
INNER_KINDS = {"map": 1, "pair": 2, "later": 2, "above": 2}
MOST_DEEP = 4
MOST_KINDS = 12
LONGEST_ROW = 20
MOST_COUNTED = 400


def is_kind(value):
    """Whether the value is a kind."""
    return 1 <= kinds_within(value, MOST_DEEP) <= MOST_KINDS


def told_kind(kind):
    """The kind as told: lists for lists, ties sorted, none twice."""
    if not is_kind(kind):
        raise InvalidKind(kind)
    return kind_as_told(kind)


def is_single(kind):
    """Whether the kind has just one state."""
    return single(told_kind(kind))


def is_line(kind):
    """Whether no two states of the kind are beside one another."""
    return in_line(told_kind(kind))


def is_finite(kind):
    """Whether the kind is not endless."""
    return finite(told_kind(kind))


def state_count(kind):
    """How many states the kind has."""
    return count_within(told_kind(kind), MOST_COUNTED)


# ----------------------------------------------------------------------------


def kinds_within(value, deep):
    """How many kinds stand in any value, it counted; 0 if it is no kind nested at most so deep."""
    if deep == 0 or not isinstance(value, tuple) or len(value) == 0 or not isinstance(value[0], str):
        return 0
    if value[0] not in INNER_KINDS:
        return 1 if is_plain_kind(value) else 0
    if len(value) != 1 + INNER_KINDS[value[0]]:
        return 0
    numbers = [kinds_within(part, deep - 1) for part in value[1:]]
    return 0 if 0 in numbers else 1 + sum(numbers)


def is_plain_kind(value):
    """Whether a tuple that begins with a string is a kind within which no other one stands."""
    word = value[0]
    if word == "count":
        return len(value) == 1
    if word == "row":
        return len(value) == 2 and is_integer(value[1]) and 1 <= value[1] <= LONGEST_ROW
    if word == "tops":
        return len(value) == 3 and is_order(value[1], value[2])
    return word == "table" and len(value) == 2 and is_table(value[1])


def kind_as_told(kind):
    """Any kind as told, made anew."""
    word = kind[0]
    if word in INNER_KINDS:
        return tuple([word] + [kind_as_told(part) for part in kind[1:]])
    if word == "tops":
        return (word, kind[1], sorted(set(kind[2])))
    if word == "table":
        return (word, [list(row) for row in kind[1]])
    return kind


def single(kind):
    """Whether the kind has just one state."""
    word = kind[0]
    if word == "row":
        return kind[1] == 1
    if word == "tops":
        return kind[1] == 0
    if word == "table":
        return len(kind[1]) == 1
    return word in ("map", "pair", "later") and all(single(part) for part in kind[1:])


def in_line(kind):
    """Whether no two states of the kind are beside one another."""
    word = kind[0]
    if word == "tops":
        return are_points_in_line(kind[1], kind[2])
    if word == "table":
        return is_table_in_line(kind[1])
    if word == "map":
        return single(kind)
    if word == "pair":
        sides = kind[1:]
        return all(in_line(part) for part in sides) and any(single(part) for part in sides)
    return word in ("count", "row") or all(in_line(part) for part in kind[1:])


def are_points_in_line(many, ties):
    """Whether of each two unlike points one is below the other one."""
    below = below_rows(many, ties)
    return all(below[low][high] or below[high][low] for high in range(many) for low in range(high))


def is_table_in_line(rows):
    """Whether each two states join to one of them."""
    states = list(range(len(rows)))
    return all(rows[one][other] in (one, other) for one in states for other in states)


def finite(kind):
    """Whether the kind is not endless."""
    word = kind[0]
    if word == "map":
        return single(kind)
    if word in INNER_KINDS:
        return all(finite(part) for part in kind[1:])
    return word != "count"


def count_of(kind, most=0):
    """How many states a kind has in which no count is above the most; each map in it is single."""
    word = kind[0]
    if word == "count":
        return most + 1
    if word == "row":
        return kind[1]
    if word == "tops":
        return len(loose_lots(kind[1], kind[2]))
    if word == "table":
        return len(kind[1])
    if word == "map":
        return 1
    ones, others = count_of(kind[1], most), count_of(kind[2], most)
    return ones + others if word == "above" else ones * others


def count_within(kind, limit):
    """How many states the kind has: Endless if it has no end of them, TooMany if more than the limit."""
    if not finite(kind):
        raise Endless()
    many = count_of(kind)
    if many > limit:
        raise TooMany("states", limit)
    return many
