"""Judges of plain values, and copies of them."""


def is_integer(value):
    """Whether the value is an INTEGER: an int that is not a bool."""
    return isinstance(value, int) and not isinstance(value, bool)


def is_count(value):
    """Whether the value is a COUNT: an INTEGER that is at least 0."""
    return is_integer(value) and value >= 0


def is_count_below(value, bound):
    """Whether the value is a COUNT below the bound."""
    return is_count(value) and value < bound


def is_list(value):
    """Whether the value may stand for a list: tuples are accepted as well."""
    return isinstance(value, (list, tuple))


def is_map_name(value):
    """Whether the value is a NAME: one to eight letters from a to z."""
    if not isinstance(value, str) or not 1 <= len(value) <= 8:
        return False
    return all("a" <= sign <= "z" for sign in value)


def are_map_names(value, most):
    """Whether the value is a list of at most so many NAMES, none twice."""
    if not is_list(value) or len(value) > most or not all(is_map_name(name) for name in value):
        return False
    return len(set(value)) == len(value)


def copied(value):
    """The value with each list and tuple inside it made anew."""
    if isinstance(value, list):
        return [copied(part) for part in value]
    if isinstance(value, tuple):
        return tuple([copied(part) for part in value])
    return value
