"""Keeping: what is run, served and kept when places are asked and cells change."""

from shortkeys.errors import BadDeed, BadHistory, BadStock
from shortkeys.keys import Key
from shortkeys.names import PLACE_NAMES, is_numbers, is_pair, is_whole
from shortkeys.plans import check_plan
from shortkeys.values import marked_names, run, view_of

MOST_DEEDS = 100


class Visit:
    """One ask with all those that it leads to: the rows of all places meanwhile, and the trace."""

    def __init__(self, plan, asked, stock):
        now, kept = stock
        self.scheme = plan
        self.numbers = dict(zip(plan.usable(0).names, asked + now))
        self.kept = [list(rows) for rows in kept]
        self.trace = []

    def ask(self, place):
        """Ask a place, and return the number that it gives."""
        rule = self.scheme.places[place][1]
        marks = None
        if isinstance(rule, Key):
            marks = tuple([(name, self.ask_name(name)) for name in rule.names])
        row = self.row_served(place, marks)
        if row is not None:
            return self.give(place, "served", row[1])
        return self.give(place, "run", self.run_place(place, marks))

    def ask_name(self, name):
        """Ask for the number of a name, and return it."""
        if name in PLACE_NAMES:
            return self.ask(PLACE_NAMES.index(name))
        return self.numbers[name]

    def row_served(self, place, marks):
        """Return the first row with just these marks, or, without marks, the first one that fits, or None."""
        for row in list(self.kept[place]):
            if row[0] == marks or marks is None and self.fits(row):
                return row
        return None

    def fits(self, row):
        """Tell whether the names of all marks of a row have their numbers; no name behind a wrong one is asked for."""
        for name, number in row[0]:
            if self.ask_name(name) != number:
                return False
        return True

    def run_place(self, place, marks):
        """Run the recipe of a place, make a row if it has a rule, and return the number."""
        recipe, rule = self.scheme.places[place]
        number, found = run(recipe, self.scheme.base, lambda name: self.ask_name(name))
        if marks is None:
            marks = tuple([(name, found[name]) for name in marked_names(rule, list(found))])
        if rule is not None:
            self.kept[place].append((marks, number))
        return number

    def give(self, place, way, number):
        """Put into the trace that a place gives a number, and return it."""
        self.trace.append((place, way, number))
        return number


def first_stock(plan):
    """Return the stock before all deeds."""
    check_plan(plan)
    return ((0,) * plan.cells, ((),) * len(plan))


def after(plan, stock, deed):
    """Return the stock after a deed that is done to a stock."""
    check_plan(plan)
    if not is_stock(stock, plan):
        raise BadStock("not a stock of the plan")
    if not is_deed(deed, plan):
        raise BadDeed("not a deed of the plan")
    return done(plan, stock, deed)[0]


def stock_after(plan, history):
    """Return the stock after a history."""
    check_history(plan, history)
    stock = first_stock(plan)
    for deed in history:
        stock = done(plan, stock, deed)[0]
    return stock


def told(plan, history):
    """Return the list of the numbers that the deeds of a history give."""
    return [number_given(trace) for trace in traced(plan, history)]


def traced(plan, history):
    """Return the list of the traces of the deeds of a history."""
    check_history(plan, history)
    traces = []
    stock = first_stock(plan)
    for deed in history:
        stock, trace = done(plan, stock, deed)
        traces.append(trace)
    return traces


def false_deeds(plan, history):
    """Return the list of the indices of the deeds of a history in which a service is false."""
    found = []
    now = list(first_stock(plan)[0])
    for at, trace in enumerate(traced(plan, history)):
        deed = history[at]
        if deed[0] == "set":
            now[deed[1]] = deed[2]
        elif has_false_service(plan, trace, (deed[2], tuple(now))):
            found.append(at)
    return found


def runs(plan, history):
    """Return the list of how often the recipe of each place is run in a history."""
    ran = [place for trace in traced(plan, history) for place, way, number in trace if way == "run"]
    return [ran.count(place) for place in range(len(plan))]


def done(plan, stock, deed):
    """Return the stock after a deed, and the trace of the deed."""
    if deed[0] == "set":
        return stock_set(plan, stock, deed[1], deed[2]), []
    visit = Visit(plan, deed[2], stock)
    visit.ask(deed[1])
    return (stock[0], tuple([tuple(rows) for rows in visit.kept])), visit.trace


def stock_set(plan, stock, cell, number):
    """Return the stock after a cell has got a number."""
    now, kept = stock
    if now[cell] == number:
        return stock
    rows = tuple([() if place in plan.drops[cell] else kept[place] for place in range(len(plan))])
    return (now[:cell] + (number,) + now[cell + 1:], rows)


def number_given(trace):
    """Return the number that the deed of a trace gives: that of the place that was asked first and gave last."""
    return trace[-1][2] if trace else None


def has_false_service(plan, trace, situation):
    """Tell whether in a trace, in this situation, a place is served a number that is not its value."""
    served = [(place, number) for place, way, number in trace if way == "served"]
    return any([view_of(plan, place, situation).worth != number for place, number in served])


def check_history(plan, history):
    """Raise BadPlan or BadHistory if values of any kind are not a plan and a history of it."""
    check_plan(plan)
    if not isinstance(history, (list, tuple)) or len(history) > MOST_DEEDS:
        raise BadHistory(None)
    for at, deed in enumerate(history):
        if not is_deed(deed, plan):
            raise BadHistory(at)


def is_deed(deed, plan):
    """Tell whether a value of any kind is a deed of a plan."""
    if not isinstance(deed, tuple) or len(deed) != 3 or not isinstance(deed[0], str):
        return False
    if deed[0] == "set":
        return is_whole(deed[1], 0, plan.cells - 1) and is_whole(deed[2], 0, plan.base - 1)
    return deed[0] == "ask" and is_whole(deed[1], 0, len(plan) - 1) and is_numbers(deed[2], plan.fields, plan.base)


def is_stock(stock, plan):
    """Tell whether a value of any kind is a stock of a plan, also one that cannot come about."""
    if not is_pair(stock) or not is_numbers(stock[0], plan.cells, plan.base):
        return False
    kept = stock[1]
    if not isinstance(kept, tuple) or len(kept) != len(plan):
        return False
    return all([are_kept(kept[place], plan, place) for place in range(len(plan))])


def are_kept(rows, plan, place):
    """Tell whether a value of any kind is a tuple of rows for a place, empty if it has no rule."""
    if not isinstance(rows, tuple) or rows and plan.places[place][1] is None:
        return False
    return all([is_row(row, plan, place) for row in rows])


def is_row(row, plan, place):
    """Tell whether a value of any kind is a row for a place."""
    if not is_pair(row) or not isinstance(row[0], tuple) or not is_whole(row[1], 0, plan.base - 1):
        return False
    usable = plan.usable(place)
    return all([is_pair(mark) and mark[0] in usable and is_whole(mark[1], 0, plan.base - 1) for mark in row[0]])
