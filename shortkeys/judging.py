"""Judging: whether any history, however long, makes a plan serve what is false."""

from shortkeys.errors import BadHistory
from shortkeys.keeping import false_deeds
from shortkeys.names import copy_of, is_integer, is_pair
from shortkeys.plans import check_plan, check_plan_and_place
from shortkeys.values import dropping_key, marked_names, numbers_in, views_of


class Sound:
    """That no service is ever false: all rows that a place can make, and that each of them is true where it fits."""

    def __init__(self, tables):
        self.tables = [None if table is None else copy_of(table) for table in tables]

    def shows(self, plan):
        """Tell whether the tables are such ones for a plan."""
        check_plan(plan)
        if not isinstance(self.tables, list) or len(self.tables) != len(plan):
            return False
        return all([is_sound_table(self.tables[place], plan, place) for place in range(len(plan))])

    def __eq__(self, other):
        return isinstance(other, Sound) and self.tables == other.tables


class Mixed:
    """That a service is false in the last deed of a history."""

    def __init__(self, history):
        self.history = list(history)

    def shows(self, plan):
        """Tell whether a service is false in the last deed, by this plan."""
        check_plan(plan)
        if not isinstance(self.history, list):
            return False
        try:
            wrong = false_deeds(plan, self.history)
        except BadHistory:
            return False
        return len(self.history) - 1 in wrong

    def __eq__(self, other):
        return isinstance(other, Mixed) and self.history == other.history


def judge(plan):
    """Return a Sound or a Mixed for a plan."""
    check_plan(plan)
    # Up to the first false service all numbers are values: so the ask that made the row, and the one to which
    # it is served, are all that counts of any history, and the cells that have to change before each of them.
    histories = [history_of(place, maker, user) for place in range(len(plan))
                 for maker, user in mixed_views(plan, place)]
    if not histories:
        return Sound([table_made(plan, place) for place in range(len(plan))])
    fewest = min([len(history) for history in histories])
    return Mixed([history for history in histories if len(history) == fewest][0])


def is_sound(plan):
    """Tell whether a plan is sound."""
    return isinstance(judge(plan), Sound)


def soonest(plan):
    """Return the least number of deeds of a history of a Mixed, or None for a sound plan."""
    found = judge(plan)
    return len(found.history) if isinstance(found, Mixed) else None


def mixes(plan, place):
    """Return the list of all pairs of a maker and a user in which a row of the maker is mixed."""
    check_plan_and_place(plan, place)
    return [(maker.situation, user.situation) for maker, user in mixed_views(plan, place)]


def mixed_views(plan, place):
    """Return the list of the pairs of the views of a maker and of a user, in order."""
    rule = plan.places[place][1]
    if rule is None:
        return []
    views = views_of(plan, place)
    dropping = dropping_key(plan, place).names
    groups = {}
    pairs = []
    for maker in views:
        names = dropping + marked_names(rule, maker.asked)
        if names not in groups:
            groups[names] = grouped(views, names)
        users = groups[names][numbers_in(maker, names)]
        pairs.extend([(maker, user) for user in users if user.worth != maker.worth])
    return pairs


def grouped(views, names):
    """Return a dict from the tuples of the numbers of these names to the lists of the views that have them."""
    groups = {}
    for view in views:
        groups.setdefault(numbers_in(view, names), []).append(view)
    return groups


def history_of(place, maker, user):
    """Return the shortest history that makes a row of a place in one view, and is then served it in another one."""
    made_in, made_now = maker.situation
    used_in, used_now = user.situation
    first = sets_between((0,) * len(made_now), made_now)
    # No cell that changes here drops the place: those that do have the same numbers in both.
    then = sets_between(made_now, used_now)
    return [*first, ("ask", place, made_in), *then, ("ask", place, used_in)]


def sets_between(before, now):
    """Return the list of the deeds that set the cells that do not have the same number in both."""
    return [("set", cell, now[cell]) for cell in range(len(now)) if before[cell] != now[cell]]


def table_made(plan, place):
    """Return the dict of all rows that a place makes, with the numbers of the cells that drop it; or None."""
    rule = plan.places[place][1]
    if rule is None:
        return None
    dropping = dropping_key(plan, place).names
    return {row_made(view, dropping, rule): view.worth for view in views_of(plan, place)}


def row_made(view, dropping, rule):
    """Return the pair of the numbers of the cells that drop a place, and of the marks of the row that it makes."""
    names = marked_names(rule, view.asked)
    return (numbers_in(view, dropping), tuple([(name, view.numbers[name]) for name in names]))


def is_sound_table(table, plan, place):
    """Tell whether a value of any kind has all rows that a place makes, and just rows that are true; or is None."""
    rule = plan.places[place][1]
    if rule is None or not isinstance(table, dict):
        return rule is None and table is None
    views = views_of(plan, place)
    dropping = dropping_key(plan, place).names
    if not all([row_made(view, dropping, rule) in table for view in views]):
        return False
    usable = plan.usable(place)
    return all([is_marked_pair(pair, usable) and is_true(pair, table[pair], views, dropping) for pair in table])


def is_marked_pair(pair, usable):
    """Tell whether a value of any kind is a pair of a tuple of integers, and of marks with usable names."""
    if not is_pair(pair) or not all([isinstance(part, tuple) for part in pair]):
        return False
    marked = all([is_pair(mark) and mark[0] in usable and is_integer(mark[1]) for mark in pair[1]])
    return marked and all([is_integer(n) for n in pair[0]])


def is_true(pair, number, views, dropping):
    """Tell whether a value of any kind is the value of a place in all views in which a pair of a table fits."""
    if not is_integer(number):
        return False
    here, marks = pair
    fitting = [view for view in views if numbers_in(view, dropping) == here
               and all([view.numbers[name] == worth for name, worth in marks])]
    return all([view.worth == number for view in fitting])
