"""Likeness: whether two plans give the same numbers, whatever is asked and changed."""

from shortkeys.errors import BadPair, TooLarge
from shortkeys.keeping import done, first_stock, is_deed, is_stock, number_given
from shortkeys.names import is_pair
from shortkeys.plans import check_plan, number_rows

MOST_COUPLES = 300


class Same:
    """That no deeds ever part two plans: pairs of stocks that no deed leaves, and at which none parts them."""

    def __init__(self, couples):
        self.couples = list(couples)

    def shows(self, one, other):
        """Tell whether the pairs of stocks are such ones for two plans."""
        check_comparable(one, other)
        if not isinstance(self.couples, list) or not all([is_couple(pair, one, other) for pair in self.couples]):
            return False
        known = {couple: True for couple in self.couples}
        if first_couple(one, other) not in known:
            return False
        deeds = deeds_of(one)
        return all([stays_within(one, other, couple, deeds, known) for couple in known])

    def __eq__(self, other):
        return isinstance(other, Same) and self.couples == other.couples


class Parted:
    """That the last deed of a history parts two plans, and none before it."""

    def __init__(self, history):
        self.history = list(history)

    def shows(self, one, other):
        """Tell whether the last deed parts two plans, and none before it."""
        check_comparable(one, other)
        if not isinstance(self.history, list) or not all([is_deed(deed, one) for deed in self.history]):
            return False
        couple = first_couple(one, other)
        for at, deed in enumerate(self.history):
            couple, parts = step(one, other, couple, deed)
            if parts:
                return at == len(self.history) - 1
        return False

    def __eq__(self, other):
        return isinstance(other, Parted) and self.history == other.history


def compare(one, other):
    """Return a Same or a Parted for two plans."""
    check_comparable(one, other)
    ways = {first_couple(one, other): []}
    waiting = list(ways)
    deeds = deeds_of(one)
    shortest = None
    # The couples wait in the order of the lengths of their ways: so the first deed that parts ends a shortest history.
    # The others are looked at all the same: there may be too many of them.
    while waiting:
        later = []
        for couple in waiting:
            for deed in deeds:
                then, parts = step(one, other, couple, deed)
                if parts and shortest is None:
                    shortest = ways[couple] + [deed]
                if not parts and then not in ways:
                    ways[then] = ways[couple] + [deed]
                    later.append(then)
            if len(ways) > MOST_COUPLES:
                raise TooLarge("too many pairs of stocks come about")
        waiting = later
    return Same(list(ways)) if shortest is None else Parted(shortest)


def are_alike(one, other):
    """Tell whether two plans are alike."""
    return isinstance(compare(one, other), Same)


def parting_length(one, other):
    """Return the least number of deeds in a history of a Parted, or None for a Same."""
    found = compare(one, other)
    return len(found.history) if isinstance(found, Parted) else None


def check_comparable(one, other):
    """Raise BadPlan or BadPair if values of any kind are not two plans that can be compared."""
    check_plan(one)
    check_plan(other)
    if shape_of(one) != shape_of(other):
        raise BadPair("plans that cannot be compared")


def shape_of(plan):
    """Return the tuple of what has to be the same in plans that can be compared."""
    return (plan.base, plan.fields, plan.cells, len(plan))


def deeds_of(plan):
    """Return the list of all deeds of a plan."""
    sets = [("set", cell, number) for cell in range(plan.cells) for number in range(plan.base)]
    rows = number_rows(plan.base, plan.fields)
    return sets + [("ask", place, fields) for place in range(len(plan)) for fields in rows]


def first_couple(one, other):
    """Return the pair of the first stocks of two plans."""
    return (first_stock(one), first_stock(other))


def is_couple(couple, one, other):
    """Tell whether a value of any kind is a pair of stocks of two plans."""
    return is_pair(couple) and is_stock(couple[0], one) and is_stock(couple[1], other)


def step(one, other, couple, deed):
    """Return the pair of the stocks after a deed, and whether the deed parts two plans at a pair of stocks."""
    first, first_trace = done(one, couple[0], deed)
    second, second_trace = done(other, couple[1], deed)
    return (first, second), number_given(first_trace) != number_given(second_trace)


def stays_within(one, other, couple, deeds, known):
    """Tell whether no deed parts two plans at a pair of stocks, and all lead to known pairs."""
    steps = [step(one, other, couple, deed) for deed in deeds]
    return all([not parts and then in known for then, parts in steps])
