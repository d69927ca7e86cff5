"""Houses: a plan with a stock, to which deeds are done, undone and tried."""

from shortkeys.errors import BadDeed, BadHistory, BadNumber, NothingDone
from shortkeys.keeping import done, first_stock, is_deed, number_given
from shortkeys.names import is_numbers, is_whole
from shortkeys.plans import check_plan


class House:
    """A plan and all deeds that are done to its stock."""

    def __init__(self, plan):
        check_plan(plan)
        self.scheme = plan
        # For each deed, in order: the deed, its trace, and the stock after it.
        self.past = []
        # So many of them were done before the trial that is going on, and cannot be undone in it.
        self.floor = 0

    @property
    def plan(self):
        """The plan."""
        return self.scheme

    def do(self, *deeds):
        """Do some deeds, and return the list of the numbers that they give."""
        for at, deed in enumerate(deeds):
            if not is_deed(deed, self.scheme):
                raise BadHistory(at)
        return [self.act(deed) for deed in deeds]

    def stock(self):
        """Return the stock."""
        return self.past[-1][2] if self.past else first_stock(self.scheme)

    def journal(self):
        """Return the list of the pairs of a deed and the number that it gave."""
        return [(deed, number_given(trace)) for deed, trace, then in self.past]

    def bill(self):
        """Return the dict from the numbers of the places to how often they were run and served."""
        ways = [(place, way) for deed, trace, then in self.past for place, way, number in trace]
        return {place: (ways.count((place, "run")), ways.count((place, "served"))) for place in range(len(self.scheme))}

    def undo(self):
        """Take back the last deed, and return its pair."""
        if len(self.past) <= self.floor:
            raise NothingDone("no deed that can be taken back")
        deed, trace, then = self.past.pop()
        return (deed, number_given(trace))

    def branch(self):
        """Return an independent house with the same plan, stock and journal."""
        made = House(self.scheme)
        made.past = list(self.past)
        return made

    def attempt(self, work):
        """Call a function with this house, take back all that was done meanwhile, and return what it returned."""
        before, floor = self.past, self.floor
        self.past, self.floor = list(before), len(before)
        try:
            return work(self)
        finally:
            self.past, self.floor = before, floor

    def act(self, deed):
        """Do a deed of the plan, and return the number that it gives."""
        then, trace = done(self.scheme, self.stock(), deed)
        self.past.append((deed, trace, then))
        return number_given(trace)

    def __call__(self, place, fields):
        self.scheme.check_place(place)
        if not is_numbers(fields, self.scheme.fields, self.scheme.base):
            raise BadDeed("not a tuple of a number for each field")
        return self.act(("ask", place, fields))

    def __getitem__(self, at):
        if not is_whole(at, 0, self.scheme.cells - 1):
            raise BadNumber("not the number of a cell of the plan")
        return self.stock()[0][at]

    def __setitem__(self, at, worth):
        if not is_deed(("set", at, worth), self.scheme):
            raise BadNumber("not the number of a cell, or not a number of the plan")
        self.act(("set", at, worth))

    def __iter__(self):
        raise TypeError("a house is not iterated over")

    def __len__(self):
        return len(self.past)
