"""Claims: what is said of kinds, their states and views, what says the contrary, and the papers that show it.

The functions above the line of dashes are the interface: they check what they
are passed. Those below it want a claim or its parts, unless they say otherwise.
"""

from partsmet.alikes import has_few_parts, is_renaming, least_table, renaming
from partsmet.basics import copied, is_count, is_integer, is_list
from partsmet.culprits import culprit, is_culprit
from partsmet.differences import difference, is_difference, is_least_difference
from partsmet.errors import InvalidClaim
from partsmet.grades import grade_of
from partsmet.joins import is_at_most
from partsmet.kinds import is_kind, kind_as_told
from partsmet.questions import decider, goes_through, is_question_of, is_two_below, two_below
from partsmet.shapes import are_one, is_parting, parting
from partsmet.states import fits, least_of, state_as_told
from partsmet.views import is_view_of, kind_seen

LINES = (
    ("even", "uneven"),
    ("single", "double"),
    ("one", "parted"),
    ("through", "notthrough"),
    ("alike", "unlike"),
    ("least", "notleast"),
)
# How many parts behind the word the claims of a line have.
PARTS = {"even": 1, "single": 1, "one": 3, "through": 3, "alike": 2, "least": 4}


def words():
    """The two words of each line of claims, in their sequence."""
    return list(LINES)


def is_claim(value):
    """Whether the value is a claim."""
    if not isinstance(value, tuple) or len(value) < 2:
        return False
    head = head_of(value[0])
    if head is None or len(value) != 1 + PARTS[head] or not is_kind(value[1]):
        return False
    return are_parts(head, kind_as_told(value[1]), value[2:])


def is_true(claim):
    """Whether the claim is true."""
    check_claim(claim)
    head = head_of(claim[0])
    return holds(head, claim[1:]) == (claim[0] == head)


def contrary(claim):
    """The claim that says the contrary, with the same parts."""
    check_claim(claim)
    return (other_word(claim[0]),) + copied(claim[1:])


def paper_of(claim):
    """A paper that shows the claim; None if it is not true, or if its word has none."""
    check_claim(claim)
    word, parts = claim[0], claim[1:]
    if word == "uneven":
        return culprit(parts[0], "differences")
    if word == "double":
        return culprit(parts[0], "lists")
    if word == "parted":
        return parting(*parts)
    if word == "through":
        return decider(parts[0], parts[1:])
    if word == "notthrough":
        return two_below(parts[0], parts[1:])
    if word == "alike":
        return renaming(*parts)
    if word == "unlike":
        return unlike_tables(*parts)
    if word == "notleast":
        return lesser_difference(*parts)
    return None


def is_paper_of(claim, value):
    """Whether the value is a paper that shows the claim."""
    check_claim(claim)
    word, parts = claim[0], claim[1:]
    if word == "uneven":
        return is_culprit(parts[0], "differences", value)
    if word == "double":
        return is_culprit(parts[0], "lists", value)
    if word == "parted":
        return is_parting(parts[0], parts[1], parts[2], value)
    if word == "through":
        place = decider(parts[0], parts[1:])
        return is_count(value) and value == place
    if word == "notthrough":
        return is_two_below(parts[0], parts[1:], value)
    if word == "alike":
        return is_renaming(parts[0], parts[1], value)
    if word == "unlike":
        return tells_tables(value, unlike_tables(*parts))
    if word == "notleast":
        return is_beyond(parts, value)
    return False


# ----------------------------------------------------------------------------


def check_claim(value):
    """InvalidClaim unless any value is a claim."""
    if not is_claim(value):
        raise InvalidClaim(value)


def head_of(word):
    """The first word of the line in which any value stands; None if it stands in none."""
    for line in LINES:
        if word in line:
            return line[0]
    return None


def other_word(word):
    """The other word of the line."""
    for line in LINES:
        if word in line:
            return line[1] if word == line[0] else line[0]
    return word


def are_parts(head, kind, rest):
    """Whether these stand behind the told kind in a claim of the line."""
    if head == "one":
        return grade_of(kind) != "neither" and are_views_of_one_kind(kind, rest[0], rest[1])
    if head == "through":
        return grade_of(kind) != "neither" and is_question_to_decide(kind, rest)
    if head == "alike":
        return has_few_parts(kind) and is_kind(rest[0]) and has_few_parts(kind_as_told(rest[0]))
    if head == "least":
        return grade_of(kind) == "differences" and is_told_difference(kind, rest)
    return True


def are_views_of_one_kind(kind, view, other):
    """Whether any two values are views of the kind with one kind of worths."""
    if not is_view_of(kind, view) or not is_view_of(kind, other):
        return False
    return kind_seen(kind, view) == kind_seen(kind, other)


def is_question_to_decide(kind, value):
    """Whether any value is a question of the kind for no least state, of a kind that has least differences."""
    if not is_question_of(kind, value):
        return False
    seen = kind_seen(kind, value[0])
    return grade_of(seen) == "differences" and state_as_told(seen, value[1]) != least_of(seen)


def is_told_difference(kind, rest):
    """Whether any three values are two states of the kind and a difference of the one over the other."""
    return fits(kind, rest[0]) and fits(kind, rest[1]) and is_difference(kind, rest[0], rest[1], rest[2])


def holds(head, parts):
    """Whether the claim with the first word of the line and these parts is true."""
    if head == "even":
        return grade_of(kind_as_told(parts[0])) == "differences"
    if head == "single":
        return grade_of(kind_as_told(parts[0])) != "neither"
    if head == "one":
        return are_one(*parts)
    if head == "through":
        return goes_through(parts[0], parts[1:])
    if head == "alike":
        return renaming(*parts) is not None
    return is_least_difference(*parts)


def unlike_tables(kind, other):
    """The least tables of both kinds; None if they are one."""
    table, other_table = least_table(kind), least_table(other)
    return (table, other_table) if table != other_table else None


def tells_tables(value, tables):
    """Whether any value is that tuple of two tables, perhaps with tuples for lists; it is none of None."""
    if tables is None or not isinstance(value, tuple) or len(value) != 2:
        return False
    return all(tells_table(each, table) for each, table in zip(value, tables))


def tells_table(value, table):
    """Whether any value is the table of numbers, perhaps with tuples for lists."""
    if not is_list(value) or not all(are_integers(row) for row in value):
        return False
    return [list(row) for row in value] == table


def are_integers(value):
    """Whether any value is a list of INTEGERS."""
    return is_list(value) and all(is_integer(number) for number in value)


def lesser_difference(kind, one, other, told):
    """The least difference of the one state over the other one; None if it is the told one."""
    if is_least_difference(kind, one, other, told):
        return None
    return difference(kind, one, other)


def is_beyond(parts, value):
    """Whether any value is a difference that the told one is not at most."""
    kind, one, other, told = parts
    return is_difference(kind, one, other, value) and not is_at_most(kind, told, value)
