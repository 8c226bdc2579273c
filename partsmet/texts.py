"""Written forms: kinds, states, views and what is made of them as lines of text.

The functions above the line of dashes are the interface: they check what they
are passed. Those below it want told kinds and what is of them, unless they say otherwise.
"""

from partsmet.errors import InvalidSort, InvalidValue
from partsmet.kinds import is_kind, kind_as_told
from partsmet.questions import is_question_of
from partsmet.states import are_states, fits, side_of
from partsmet.views import is_view_of, kind_seen
from partsmet.webs import is_web, web_as_told

SORTS = ("kind", "state", "log", "view", "question", "web")


def sorts():
    """The words of the sorts, in their sequence."""
    return list(SORTS)


def is_of_sort(sort, value):
    """Whether the value is one of the sort."""
    check_sort(sort)
    return is_value_of(sort, value)


def written(sort, value):
    """The written form of a value of the sort: lines, each with a line feed."""
    check_sort(sort)
    if not is_value_of(sort, value):
        raise InvalidValue(value)
    return "".join([line + "\n" for line in lines_of(sort, value)])


# ----------------------------------------------------------------------------


def check_sort(value):
    """InvalidSort unless any value is the word of a sort."""
    if value not in SORTS:
        raise InvalidSort(value)


def is_value_of(sort, value):
    """Whether any value is one of the sort."""
    if sort == "kind":
        return is_kind(value)
    if sort == "web":
        return is_web(value)
    if not isinstance(value, tuple) or len(value) != 2 or not is_kind(value[0]):
        return False
    kind = kind_as_told(value[0])
    if sort == "state":
        return fits(kind, value[1])
    if sort == "log":
        return are_states(kind, value[1])
    if sort == "view":
        return is_view_of(kind, value[1])
    return is_question_of(kind, value[1])


def lines_of(sort, value):
    """The lines of the written form of any value of the sort."""
    if sort == "kind":
        return ["kind " + kind_text(kind_as_told(value))]
    if sort == "web":
        return ["web " + web_text(web_as_told(value))]
    kind, inner = kind_as_told(value[0]), value[1]
    head = sort + " " + kind_text(kind)
    if sort == "state":
        return [head, "is " + state_text(kind, inner)]
    if sort == "log":
        return [head] + ["entry " + state_text(kind, entry) for entry in inner]
    if sort == "view":
        return [head, "is " + view_text(inner)]
    return [head, "sees " + view_text(inner[0]), "asks " + state_text(kind_seen(kind, inner[0]), inner[1])]


def pairs_text(pairs, sign):
    """The pairs with the sign within each and commas between them, a minus sign for none."""
    return ",".join([str(one) + sign + str(other) for one, other in pairs]) or "-"


def web_text(web):
    """How a told web is written."""
    return f"{web[0]} {pairs_text(web[1], '<')}"


def kind_text(kind):
    """How the kind is written."""
    word = kind[0]
    if word == "row":
        return f"row {kind[1]}"
    if word == "tops":
        return f"tops {kind[1]} {pairs_text(kind[2], '<')}"
    if word == "table":
        return "table " + ";".join([",".join([str(number) for number in row]) for row in kind[1]])
    return " ".join([word] + [kind_text(inner) for inner in kind[1:]])


def state_text(kind, state):
    """How any state of the kind is written."""
    word = kind[0]
    if word == "tops":
        return "[" + ",".join([str(point) for point in state]) + "]"
    if word == "map":
        return "{" + ",".join([name + ":" + state_text(kind[1], inner) for name, inner in state]) + "}"
    if word == "above":
        return state[0] + "(" + state_text(side_of(kind, state[0]), state[1]) + ")"
    if word in ("pair", "later"):
        return "(" + state_text(kind[1], state[0]) + "," + state_text(kind[2], state[1]) + ")"
    return str(state)


def view_text(view):
    """How any view is written."""
    word = view[0]
    if word == "at":
        return "at " + view[1]
    if word == "some":
        return "some " + (",".join(list(view[1])) or "-")
    if word == "renamed":
        return "renamed " + pairs_text(view[1], ">")
    return " ".join([word] + [view_text(inner) for inner in view[1:]])
