"""What the document's definitions say, tried out by brute force over all states of a finite kind."""

import itertools


def states_of(kind):
    """All states of a finite kind, sorted."""
    word = kind[0]
    if word == "row":
        return list(range(kind[1]))
    if word == "table":
        return list(range(len(kind[1])))
    if word == "tops":
        lots = [lot for size in range(kind[1] + 1) for lot in itertools.combinations(range(kind[1]), size)]
        return sorted(list(lot) for lot in lots if not any(is_below(kind, a, b) for a in lot for b in lot))
    if word == "map":
        assert len(states_of(kind[1])) == 1
        return [[]]
    if word == "above":
        return sorted([(side, each) for side, part in zip(("low", "high"), kind[1:]) for each in states_of(part)])
    return sorted(itertools.product(states_of(kind[1]), states_of(kind[2])))


def is_below(kind, low, high):
    """Whether one comes from the low to the high point by going along ties, once or more."""
    reached, steps = [], [low]
    while steps:
        steps = [tie[1] for tie in kind[2] if tie[0] in steps and tie[1] not in reached]
        reached += steps
    return high in reached


def least_of(kind):
    word = kind[0]
    if word in ("tops", "map"):
        return []
    if word in ("pair", "later"):
        return (least_of(kind[1]), least_of(kind[2]))
    return ("low", least_of(kind[1])) if word == "above" else 0


def is_at_most(kind, one, other):
    """The order of the states, told without joins."""
    word = kind[0]
    if word == "table":
        return kind[1][one][other] == other
    if word == "tops":
        return all(any(a == b or is_below(kind, a, b) for b in other) for a in one)
    if word == "map":
        held = dict(other)
        return all(is_at_most(kind[1], each, held.get(name, least_of(kind[1]))) for name, each in one)
    if word == "pair":
        return is_at_most(kind[1], one[0], other[0]) and is_at_most(kind[2], one[1], other[1])
    if word == "later":
        if one[0] == other[0]:
            return is_at_most(kind[2], one[1], other[1])
        return is_at_most(kind[1], one[0], other[0])
    if word == "above":
        if one[0] != other[0]:
            return one[0] == "low"
        return is_at_most(kind[1] if one[0] == "low" else kind[2], one[1], other[1])
    return one <= other


def bounded_states(kind, names, most):
    """All states with these names and no count above the most, maps of a single one or none of the names."""
    word = kind[0]
    if word == "count":
        return list(range(most + 1))
    if word == "map":
        inner = [each for each in bounded_states(kind[1], names, most) if each != least_of(kind[1])]
        return [[]] + [[(name, each)] for name in names for each in inner]
    if word not in ("pair", "later", "above"):
        return states_of(kind)
    firsts, seconds = (bounded_states(inner, names, most) for inner in kind[1:])
    if word == "above":
        return [("low", each) for each in firsts] + [("high", each) for each in seconds]
    return list(itertools.product(firsts, seconds))


class Told:
    """A finite kind with its states, order, joins and parts as the definitions tell them."""

    def __init__(self, kind):
        self.kind = kind
        self.states = states_of(kind)
        many = range(len(self.states))
        self.order = [[is_at_most(kind, one, other) for other in self.states] for one in self.states]
        self.joins = [[self.least_above(one, other) for other in many] for one in many]
        self.least = self.states.index(least_of(kind))
        self.parts = [at for at in many if self.is_part(at)]

    def least_above(self, one, other):
        many = range(len(self.states))
        above = [at for at in many if self.order[one][at] and self.order[other][at]]
        (least,) = [at for at in above if all(self.order[at][each] for each in above)]
        return least

    def is_part(self, at):
        lesser = [each for each in range(len(self.states)) if self.order[each][at] and each != at]
        return at != self.least and not any(self.joins[one][other] == at for one in lesser for other in lesser)

    def joined(self, places):
        total = self.least
        for at in places:
            total = self.joins[total][at]
        return total

    def lists(self, at):
        """All lists of the state, as sorted lists of states, sorted."""
        below = [part for part in self.parts if self.order[part][at]]
        lots = [lot for size in range(len(below) + 1) for lot in itertools.combinations(below, size)]
        found = [lot for lot in lots if self.is_list(lot, at)]
        return sorted(sorted(self.states[part] for part in lot) for lot in found)

    def is_list(self, lot, at):
        if self.joined(lot) != at:
            return False
        return all(self.joined([each for each in lot if each != part]) != at for part in lot)

    def has_single_lists(self):
        return all(len(self.lists(at)) == 1 for at in range(len(self.states)))

    def differences(self, one, other):
        """The places of all differences of the one state over the other one."""
        return [at for at in range(len(self.states)) if self.order[one][self.joins[at][other]]]

    def least_difference(self, one, other):
        """The place of the least difference; None without one."""
        found = self.differences(one, other)
        least = [at for at in found if all(self.order[at][each] for each in found)]
        return least[0] if least else None

    def has_least_differences(self):
        many = range(len(self.states))
        return all(self.least_difference(one, other) is not None for one in many for other in many)

    def lot(self, at):
        """The parts that are at most the state, as states."""
        return [self.states[part] for part in self.parts if self.order[part][at]]
