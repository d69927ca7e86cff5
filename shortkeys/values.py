"""Values: what a place comes to in each situation, which keys decide it, and which of them are least."""

from shortkeys.errors import BadKey, BadSituation
from shortkeys.keys import Key
from shortkeys.names import CELL_NAMES, PLACE_NAMES, copy_of, is_numbers, is_pair, is_whole, name_rows
from shortkeys.plans import check_plan_and_place, number_rows
from shortkeys.recipes import come_to


class Decided:
    """That a key decides a place: the table gives the value by the numbers of the names of the key."""

    def __init__(self, table):
        self.table = copy_of(table)

    def shows(self, plan, place, key):
        """Tell whether the table is that of this key for this place."""
        check_key(plan, place, key)
        return is_table(self.table, plan, place, key)

    def __eq__(self, other):
        return isinstance(other, Decided) and self.table == other.table


class Split:
    """That a key does not decide a place: two situations that are one to the key, but not to the place."""

    def __init__(self, one, other):
        self.one = one
        self.other = other

    def shows(self, plan, place, key):
        """Tell whether the two situations split this place under this key."""
        check_key(plan, place, key)
        return is_split((self.one, self.other), plan, place, key)

    def __eq__(self, other):
        return isinstance(other, Split) and self.one == other.one and self.other == other.other


class Cores:
    """All least keys of a place with their tables, and splits for all keys that have none of them."""

    def __init__(self, rows, splits):
        self.rows = [(key, copy_of(table)) for key, table in rows]
        self.splits = list(splits)

    def shows(self, plan, place):
        """Tell whether the rows and the splits are those of a place."""
        right = cores(plan, place)
        return are_rows(self.rows, right.rows, plan, place) and are_splits(self.splits, right.splits, plan, place)

    def __eq__(self, other):
        return isinstance(other, Cores) and self.rows == other.rows and self.splits == other.splits


class View:
    """A place in one situation: the numbers of the names for it, its value, and the names for which it asks."""

    def __init__(self, situation, numbers, worth, asked):
        self.situation = situation
        self.numbers = numbers
        self.worth = worth
        self.asked = asked


def value(plan, place, situation):
    """Return the value of a place in a situation."""
    check_situation(plan, place, situation)
    return view_of(plan, place, situation).worth


def reads(plan, place, situation):
    """Return the list of the names for which the recipe of a place asks in a situation."""
    check_situation(plan, place, situation)
    return view_of(plan, place, situation).asked


def decide(plan, place, key):
    """Return a Decided or a Split for a key."""
    check_key(plan, place, key)
    views = views_of(plan, place)
    pair = split_in(views, key.names)
    if pair is None:
        return Decided(table_in(views, key.names, plan.base))
    return Split(pair[0], pair[1])


def does_decide(plan, place, key):
    """Tell whether a key decides a place."""
    return isinstance(decide(plan, place, key), Decided)


def cores(plan, place):
    """Return the Cores of a place."""
    check_plan_and_place(plan, place)
    views = views_of(plan, place)
    pairs = {names: split_in(views, names) for names in name_rows(plan.usable(place).names)}
    # More names decide at least as much: so keys with one name less or more tell enough.
    least = [names for names in pairs if pairs[names] is None and not any([pairs[n] is None for n in one_less(names)])]
    inner = {fewer: True for names in pairs if pairs[names] is not None for fewer in one_less(names)}
    widest = [names for names in pairs if pairs[names] is not None and names not in inner]
    rows = [(Key(names), table_in(views, names, plan.base)) for names in least]
    return Cores(rows, [(Key(names), pairs[names]) for names in widest])


def core_keys(plan, place):
    """Return the list of all least keys of a place."""
    return [key for key, table in cores(plan, place).rows]


def free_names(plan, place):
    """Return the key of the names that stand in no least key of a place."""
    needed = [name for key in core_keys(plan, place) for name in key.names]
    return Key([name for name in plan.usable(place).names if name not in needed])


def check_situation(plan, place, situation):
    """Raise BadPlan, BadPlace or BadSituation if values of any kind are not a plan, a place and a situation of it."""
    check_plan_and_place(plan, place)
    if not is_situation(situation, plan):
        raise BadSituation("not a situation of the plan")


def check_key(plan, place, key):
    """Raise BadPlan, BadPlace or BadKey if values of any kind are not a plan, a place of it and a key for it."""
    check_plan_and_place(plan, place)
    if not is_key(key, plan, place):
        raise BadKey("not a key for the place")


def is_situation(situation, plan):
    """Tell whether a value of any kind is a situation of a plan."""
    if not is_pair(situation):
        return False
    return is_numbers(situation[0], plan.fields, plan.base) and is_numbers(situation[1], plan.cells, plan.base)


def is_key(key, plan, place):
    """Tell whether a value of any kind is a key for a place."""
    return isinstance(key, Key) and key <= plan.usable(place)


def is_table(table, plan, place, key):
    """Tell whether a value of any kind is the table of a key, in any order, and the key decides the place."""
    views = views_of(plan, place)
    if split_in(views, key.names) is not None:
        return False
    return is_same_table(table, table_in(views, key.names, plan.base), len(key), plan.base)


def is_same_table(table, right, many, base):
    """Tell whether a value of any kind is the right table for so many names, in any order."""
    if not isinstance(table, dict) or len(table) != len(right):
        return False
    return all([is_numbers(row, many, base) and row in right and is_whole(table[row], right[row], right[row])
                for row in table])


def is_split(pair, plan, place, key):
    """Tell whether a value of any kind is a pair of situations that split a place under a key."""
    if not is_pair(pair) or not all([is_situation(situation, plan) for situation in pair]):
        return False
    return split_in([view_of(plan, place, situation) for situation in pair], key.names) is not None


def are_rows(rows, right, plan, place):
    """Tell whether a value of any kind is the list of the rows of a Cores, in any order."""
    if not are_keyed(rows, plan, place) or len(rows) != len(right):
        return False
    tables = {key.names: table for key, table in rows}
    return all([key.names in tables and is_same_table(tables[key.names], table, len(key), plan.base)
                for key, table in right])


def are_splits(splits, right, plan, place):
    """Tell whether a value of any kind is a list of splits that has a key around each key of the right ones."""
    if not are_keyed(splits, plan, place) or not all([is_split(pair, plan, place, key) for key, pair in splits]):
        return False
    return all([any([key <= wider for wider, found in splits]) for key, pair in right])


def are_keyed(rows, plan, place):
    """Tell whether a value of any kind is a list of pairs of a key for a place and something else."""
    return isinstance(rows, list) and all([is_pair(row) and is_key(row[0], plan, place) for row in rows])


def run(recipe, base, ask):
    """Return what a recipe comes to, and a dict of the names for which it asks, in this order, to their numbers."""
    found = {}

    def once(name):
        if name not in found:
            found[name] = ask(name)
        return found[name]

    return come_to(recipe.form, base, once), found


def marked_names(rule, asked):
    """Return the names of the marks of a row that a run makes by a rule, if it asks for these names, in order."""
    if isinstance(rule, Key):
        return rule.names
    return tuple([name for name in asked if rule == "reads" or name not in PLACE_NAMES])


def view_of(plan, place, situation):
    """Return the View of a place in a situation."""
    numbers = dict(zip(plan.usable(0).names, situation[0] + situation[1]))

    def number_of(name):
        return numbers[name]

    for earlier in range(place):
        numbers[PLACE_NAMES[earlier]] = run(plan.places[earlier][0], plan.base, number_of)[0]
    worth, found = run(plan.places[place][0], plan.base, number_of)
    return View(situation, numbers, worth, list(found))


def views_of(plan, place):
    """Return the list of the Views of a place in all situations, in order."""
    return [view_of(plan, place, situation) for situation in plan.situations()]


def numbers_in(view, names):
    """Return the tuple of the numbers that these names have in a view."""
    return tuple([view.numbers[name] for name in names])


def split_in(views, names):
    """Return the situations of two views that are one by these names, but not by their values, or None."""
    first = {}
    for view in views:
        before = first.setdefault(numbers_in(view, names), view)
        if before.worth != view.worth:
            return (before.situation, view.situation)
    return None


def table_in(views, names, base):
    """Return the dict from the numbers of these names, in order, to the values, where the names decide these."""
    found = {numbers_in(view, names): view.worth for view in views}
    return {row: found[row] for row in number_rows(base, len(names)) if row in found}


def one_less(names):
    """Return the list of the tuples of these names but one."""
    return [names[:at] + names[at + 1:] for at in range(len(names))]


def dropping_key(plan, place):
    """Return the key of the cells by whose changes a place is dropped."""
    return Key([CELL_NAMES[cell] for cell in range(plan.cells) if place in plan.drops[cell]])
