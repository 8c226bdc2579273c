"""Questions: whether a view of a state is at least what is asked for, and which parts decide it.

The functions above the line of dashes are the interface: they check what they
are passed. Those below it want a told kind and a question of it, unless they say otherwise.
"""

from partsmet.basics import copied
from partsmet.errors import InvalidQuestion, TooMany
from partsmet.grades import check_even, check_single
from partsmet.joins import at_most, join_of
from partsmet.kinds import told_kind
from partsmet.parts import told_list
from partsmet.shapes import enough_shapes
from partsmet.states import checked_state, fits, inner_states, least_of, state_as_told
from partsmet.views import is_view_of, kind_seen, view_names, worth_of

MOST_COUNT = 5


def is_question(kind, value):
    """Whether the value is a question of the kind."""
    return is_question_of(told_kind(kind), value)


def asked(kind, question, state):
    """Whether the answer of the state is yes."""
    told = told_kind(kind)
    check_question(told, question)
    return answers_yes(told, question, checked_state(told, state))


def goes_through(kind, question):
    """Whether the answer of a join is yes exactly if that of one of the joined states is."""
    told = told_kind(kind)
    check_question(told, question)
    found = half_answers(told, question)
    return len(found) == 0 or [] in found


def decider(kind, question):
    """The first part asked for that no part of the kind answers without answering all; None without one."""
    told = told_kind(kind)
    check_question(told, question)
    found = half_answers(told, question)
    return found.index([]) if [] in found else None


def two_below(kind, question):
    """Two states that are answered no, whose join is answered yes; None if there are none."""
    told = told_kind(kind)
    check_question(told, question)
    found = half_answers(told, question)
    if [] in found:
        return None
    return copied(first_yes(told, question, [parts[0] for parts in found]))


def is_two_below(kind, question, value):
    """Whether the value is a tuple of two states that are answered no, whose join is answered yes."""
    told = told_kind(kind)
    check_question(told, question)
    if not isinstance(value, tuple) or len(value) != 2 or not all(fits(told, each) for each in value):
        return False
    one, other = state_as_told(told, value[0]), state_as_told(told, value[1])
    if answers_yes(told, question, one) or answers_yes(told, question, other):
        return False
    return answers_yes(told, question, join_of(told, one, other))


# ----------------------------------------------------------------------------


def check_question(kind, value):
    """InvalidQuestion unless any value is a question of the kind."""
    if not is_question_of(kind, value):
        raise InvalidQuestion(value)


def is_question_of(kind, value):
    """Whether any value is a tuple of a view of the kind and a state of the view's kind."""
    if not isinstance(value, tuple) or len(value) != 2 or not is_view_of(kind, value[0]):
        return False
    return fits(kind_seen(kind, value[0]), value[1])


def goal_of(kind, question):
    """The view's kind, and what is asked for as a told state of it."""
    seen = kind_seen(kind, question[0])
    return (seen, state_as_told(seen, question[1]))


def answers_yes(kind, question, state):
    """Whether what is asked for is at most the view's worth of the told state."""
    seen, goal = goal_of(kind, question)
    return at_most(seen, goal, worth_of(kind, question[0], state))


def greatest_count(kind, state):
    """The greatest state of a count in the told state, 0 without one."""
    if kind[0] == "count":
        return state
    return max([greatest_count(inner, each) for inner, each in inner_states(kind, state)], default=0)


def state_names(kind, state):
    """The names that stand in the told state, as often as they stand there."""
    own = [name for name, _ in state] if kind[0] == "map" else []
    return own + [name for inner, each in inner_states(kind, state) for name in state_names(inner, each)]


def half_answers(kind, question):
    """For each part of the told list asked for, the shapes that answer it, but not all of them."""
    view = question[0]
    seen, goal = goal_of(kind, question)
    check_single(kind)
    check_even(seen)
    most = greatest_count(seen, goal)
    if most > MOST_COUNT:
        raise TooMany("counts", MOST_COUNT)
    found = enough_shapes(kind, view_names(view) + state_names(seen, goal), most + 1)
    worths = [(shape, worth_of(kind, view, shape)) for shape in found]
    halves = [(shape, reached) for shape, reached in worths if not at_most(seen, goal, reached)]
    wanted = told_list(seen, goal)
    return [[shape for shape, reached in halves if at_most(seen, each, reached)] for each in wanted]


def first_yes(kind, question, parts):
    """The join of the first parts that is still answered no, and the next one; None if no join is answered yes."""
    total = least_of(kind)
    for each in parts:
        grown = join_of(kind, total, each)
        if answers_yes(kind, question, grown):
            return (total, each)
        total = grown
    return None
