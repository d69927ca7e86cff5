"""Plans: the places that give numbers, with their recipes, their rules, and what drops what is kept of them."""

from shortkeys.errors import BadKey, BadPlace, BadPlan
from shortkeys.keys import Key
from shortkeys.names import is_whole, usable_names
from shortkeys.recipes import Recipe

MOST_SITUATIONS = 81
WORDS = ("reads", "shown")


class Plan:
    """A base, numbers of fields and cells, places with their recipes and rules, and drops."""

    def __init__(self, base, fields, cells, places, *, drops=None):
        part = wrong_part(base, fields, cells, places, drops)
        if part is not None:
            raise BadPlan(part)
        if drops is None:
            drops = ((),) * cells
        self.held = (base, fields, cells, places, drops)

    @property
    def base(self):
        """2 or 3: all numbers of the plan are below it."""
        return self.held[0]

    @property
    def fields(self):
        """How many fields there are."""
        return self.held[1]

    @property
    def cells(self):
        """How many cells there are."""
        return self.held[2]

    @property
    def places(self):
        """The tuple of the pairs of a recipe and a rule, one for each place."""
        return self.held[3]

    @property
    def drops(self):
        """The tuple with, for each cell, the tuple of the places that are dropped when it changes."""
        return self.held[4]

    def usable(self, place):
        """Return the key of all names that a key for the place can have."""
        self.check_place(place)
        return Key(usable_names(self.fields, self.cells, place))

    def situations(self):
        """Return the list of all situations, in order."""
        cell_rows = number_rows(self.base, self.cells)
        return [(asked, now) for asked in number_rows(self.base, self.fields) for now in cell_rows]

    def ruled(self, place, rule):
        """Return the plan with another rule for a place."""
        if not rule_fits(rule, self.usable(place)):
            raise BadKey("not a rule for this place")
        pairs = list(self.places)
        pairs[place] = (pairs[place][0], rule)
        return Plan(self.base, self.fields, self.cells, tuple(pairs), drops=self.drops)

    def check_place(self, place):
        """Raise BadPlace if a value of any kind is not the number of a place."""
        if not is_whole(place, 0, len(self.places) - 1):
            raise BadPlace("not the number of a place of the plan")

    def __getitem__(self, at):
        self.check_place(at)
        return self.places[at]

    def __iter__(self):
        raise TypeError("a plan is not iterated over")

    def __len__(self):
        return len(self.places)

    def __eq__(self, other):
        return isinstance(other, Plan) and self.held == other.held


def check_plan(plan):
    """Raise BadPlan if a value of any kind is not a plan."""
    if not isinstance(plan, Plan):
        raise BadPlan(None)


def check_plan_and_place(plan, place):
    """Raise BadPlan or BadPlace if values of any kind are not a plan and the number of a place of it."""
    check_plan(plan)
    plan.check_place(place)


def wrong_part(base, fields, cells, places, drops):
    """Return the word for the first part of a plan that is not as it must be, or None."""
    if not is_whole(base, 2, 3):
        return "BASE"
    if not is_whole(fields, 1, 3):
        return "FIELDS"
    if not is_whole(cells, 0, 2) or len(number_rows(base, fields + cells)) > MOST_SITUATIONS:
        return "CELLS"
    if not isinstance(places, tuple) or not 1 <= len(places) <= 3:
        return "PLACES"
    for place, pair in enumerate(places):
        if not pair_fits(pair, base, Key(usable_names(fields, cells, place))):
            return "PLACES"
    if drops is not None and not drops_fit(drops, cells, len(places)):
        return "DROPS"
    return None


def pair_fits(pair, base, usable):
    """Tell whether a value of any kind is a recipe and a rule for a place with these usable names."""
    if not isinstance(pair, tuple) or len(pair) != 2:
        return False
    return recipe_fits(pair[0], base, usable) and rule_fits(pair[1], usable)


def recipe_fits(recipe, base, usable):
    """Tell whether a value of any kind is a recipe with just numbers below the base and usable names."""
    if not isinstance(recipe, Recipe):
        return False
    numbers = [leaf[1] for leaf in recipe.leaves if leaf[0] == "number"]
    return Key(recipe.names) <= usable and all([n < base for n in numbers])


def rule_fits(rule, usable):
    """Tell whether a value of any kind is a rule for a place with these usable names."""
    if isinstance(rule, Key):
        return rule <= usable
    return rule is None or isinstance(rule, str) and rule in WORDS


def drops_fit(drops, cells, many):
    """Tell whether a value of any kind is a tuple with, for each cell, a tuple as is_ascending wants it."""
    if not isinstance(drops, tuple) or len(drops) != cells:
        return False
    return all([is_ascending(dropped, many) for dropped in drops])


def is_ascending(dropped, many):
    """Tell whether a value of any kind is an ascending tuple of the numbers of so many places."""
    if not isinstance(dropped, tuple) or not all([is_whole(place, 0, many - 1) for place in dropped]):
        return False
    return all([dropped[at] < dropped[at + 1] for at in range(len(dropped) - 1)])


def number_rows(base, many):
    """Return the list of all tuples of so many numbers below the base, in order."""
    rows = [()]
    for at in range(many):
        rows = [(*row, n) for row in rows for n in range(base)]
    return rows
