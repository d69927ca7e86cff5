"""What the document says of values, stocks and soundness, done once more in the slowest and plainest way."""

import itertools
import random

from shortkeys.keys import Key
from shortkeys.plans import Plan
from shortkeys.recipes import Recipe

NAMES = ("f0", "f1", "f2", "c0", "c1", "p0", "p1")
LETTERS = {"field": "f", "cell": "c", "place": "p"}
# Base, fields, cells and places of plans of all sizes, the largest ones among them.
SHAPES = [(2, 1, 0, 1), (3, 1, 0, 2), (2, 1, 1, 1), (2, 1, 1, 2), (3, 1, 1, 2), (2, 2, 1, 3), (2, 1, 2, 3), (3, 1, 2, 2),
          (2, 3, 2, 3), (3, 2, 2, 3), (3, 3, 1, 3), (2, 3, 0, 3)]


def leaves(base, names):
    return [("number", n) for n in range(base)] + [
        ({"f": "field", "c": "cell", "p": "place"}[name[0]], int(name[1])) for name in names]


def any_form(chance, many, base, names):
    """A form with so many leaves of these names and of numbers below the base."""
    if many == 1:
        # Names twice as often as numbers, so that few recipes are constant.
        return chance.choice(leaves(base, names) + leaves(0, names))
    if many >= 3 and chance.random() < 0.4:
        first = chance.randint(1, many - 2)
        second = chance.randint(1, many - first - 1)
        parts = (first, second, many - first - second)
        return ("when", *[any_form(chance, part, base, names) for part in parts])
    first = chance.randint(1, many - 1)
    word = chance.choice(("sum", "less", "times", "same"))
    return (word, any_form(chance, first, base, names), any_form(chance, many - first, base, names))


def any_plan(seed, shape):
    """A plan of this shape; the same one for the same seed."""
    chance = random.Random(f"{seed} {shape}")
    base, fields, cells, many = shape
    places = []
    for place in range(many):
        names = NAMES[:fields] + NAMES[3:3 + cells] + NAMES[5:5 + place]
        rule = chance.choice((None, "reads", "shown", Key([name for name in names if chance.random() < 0.7])))
        places.append((Recipe(any_form(chance, chance.randint(1, 9), base, names)), rule))
    drops = tuple(tuple(place for place in range(many) if chance.random() < 0.5) for cell in range(cells))
    return Plan(base, fields, cells, tuple(places), drops=drops)


def usable(plan, place):
    return NAMES[:plan.fields] + NAMES[3:3 + plan.cells] + NAMES[5:5 + place]


def situations(plan):
    return list(itertools.product(itertools.product(range(plan.base), repeat=plan.fields),
                                  itertools.product(range(plan.base), repeat=plan.cells)))


def comes_to(form, base, ask):
    word, *parts = form
    if word == "number":
        return parts[0]
    if word in LETTERS:
        return ask(LETTERS[word] + str(parts[0]))
    if word == "when":
        return comes_to(parts[1] if comes_to(parts[0], base, ask) else parts[2], base, ask)
    one, other = [comes_to(part, base, ask) for part in parts]
    return {"sum": (one + other) % base, "less": (one - other) % base, "times": one * other % base,
            "same": int(one == other)}[word]


def number(plan, situation, name):
    if name[0] == "p":
        return worth(plan, int(name[1]), situation)
    return situation["fc".index(name[0])][int(name[1])]


def worth(plan, place, situation):
    return comes_to(plan[place][0].form, plan.base, lambda name: number(plan, situation, name))


def asked(plan, place, situation):
    names = []

    def ask(name):
        names.append(name)
        return number(plan, situation, name)

    comes_to(plan[place][0].form, plan.base, ask)
    return list(dict.fromkeys(names))


def row_of(plan, situation, names):
    return tuple(number(plan, situation, name) for name in names)


def facts(plan, place):
    """A list of each situation, with a dict of the numbers of all names for the place, and the value of the place."""
    return [(situation, {name: number(plan, situation, name) for name in usable(plan, place)},
             worth(plan, place, situation)) for situation in situations(plan)]


def table(plan, place, names):
    """The table of a key, in order, or None if it does not decide the place."""
    found = {}
    for situation, numbers, told in facts(plan, place):
        if found.setdefault(tuple(numbers[name] for name in names), told) != told:
            return None
    return dict(sorted(found.items()))


def all_keys(names):
    """All tuples of these names, in order, by their lengths and then by their names."""
    return [row for many in range(len(names) + 1) for row in itertools.combinations(names, many)]


def dropping(plan, place):
    return tuple(cell for cell in range(plan.cells) if place in plan.drops[cell])


def marks(plan, place, situation):
    """The marks of the row that a place makes in a situation, if all numbers are values."""
    rule = plan[place][1]
    names = rule.names if isinstance(rule, Key) else asked(plan, place, situation)
    if rule == "shown":
        names = [name for name in names if name[0] != "p"]
    return tuple((name, number(plan, situation, name)) for name in names)


def mixes(plan, place):
    if plan[place][1] is None:
        return []
    known = facts(plan, place)
    made = [marks(plan, place, situation) for situation, numbers, told in known]
    return [(maker, user) for at, (maker, n, one) in enumerate(known) for user, numbers, other in known
            if one != other and all(maker[1][cell] == user[1][cell] for cell in dropping(plan, place))
            and all(numbers[name] == k for name, k in made[at])]


class Shop:
    """A stock to which deeds are done."""

    def __init__(self, plan, stock=None):
        self.plan = plan
        self.cells, rows = stock or ((0,) * plan.cells, ((),) * len(plan))
        self.cells = list(self.cells)
        self.rows = [list(row) for row in rows]

    def stock(self):
        return (tuple(self.cells), tuple(tuple(rows) for rows in self.rows))

    def do(self, deed):
        """Do a deed, and return its trace."""
        word, at, given = deed
        trace = []
        if word == "ask":
            self.ask(at, given, trace)
        elif self.cells[at] != given:
            self.cells[at] = given
            for place in self.plan.drops[at]:
                self.rows[place] = []
        return trace

    def ask(self, place, fields, trace):
        recipe, rule = self.plan[place]

        def ask(name):
            at = int(name[1])
            return {"f": lambda: fields[at], "c": lambda: self.cells[at],
                    "p": lambda: self.ask(at, fields, trace)}[name[0]]()

        made = [(name, ask(name)) for name in rule.names] if isinstance(rule, Key) else None
        for held, told in self.rows[place]:
            if list(held) == made if made is not None else all(ask(name) == k for name, k in held):
                trace.append((place, "served", told))
                return told
        known = {}

        def once(name):
            if name not in known:
                known[name] = ask(name)
            return known[name]

        told = comes_to(recipe.form, self.plan.base, once)
        if rule is not None:
            if made is None:
                made = [(name, k) for name, k in known.items() if rule == "reads" or name[0] != "p"]
            self.rows[place].append((tuple(made), told))
        trace.append((place, "run", told))
        return told


def deeds(plan):
    """All deeds of a plan."""
    return [("set", cell, n) for cell in range(plan.cells) for n in range(plan.base)] + [
        ("ask", place, fields) for place in range(len(plan))
        for fields in itertools.product(range(plan.base), repeat=plan.fields)]


def is_false(plan, stock, deed, trace):
    """Whether a service is false in a deed with this trace, at this stock."""
    return deed[0] == "ask" and any(
        way == "served" and told != worth(plan, place, (deed[2], stock[0])) for place, way, told in trace)


def soonest(plan, most):
    """The least number of deeds up to a false service, None if there is none, or "more" after so many stocks."""
    seen = {Shop(plan).stock()}
    rows = list(seen)
    for many in itertools.count(1):
        later = []
        for stock, deed in itertools.product(rows, deeds(plan)):
            shop = Shop(plan, stock)
            if is_false(plan, stock, deed, shop.do(deed)):
                return many
            if shop.stock() not in seen:
                seen.add(shop.stock())
                later.append(shop.stock())
        if not later:
            return None
        if len(seen) > most:
            return "more"
        rows = later


def any_rules(seed, plan):
    """The plan with other rules and drops here and there; the same one for the same seed."""
    chance = random.Random(f"rules {seed}")
    for place in range(len(plan)):
        if chance.random() < 0.5:
            key = Key([name for name in usable(plan, place) if chance.random() < 0.7])
            plan = plan.ruled(place, chance.choice((None, "reads", "shown", key)))
    drops = tuple(tuple(place for place in range(len(plan)) if chance.random() < 0.5) for cell in range(plan.cells))
    return Plan(plan.base, plan.fields, plan.cells, plan.places, drops=drops if chance.random() < 0.5 else plan.drops)


def gives(trace):
    return trace[-1][2] if trace else None


def likeness(one, other, most):
    """How many pairs of stocks come about, and the least number of deeds that part two plans, None if none do."""
    first = (Shop(one).stock(), Shop(other).stock())
    seen = {first: 0}
    rows = [first]
    soonest = None
    while rows and len(seen) <= most:
        left, right = pair = rows.pop(0)
        for deed in deeds(one):
            shops = (Shop(one, left), Shop(other, right))
            told = [gives(shop.do(deed)) for shop in shops]
            later = (shops[0].stock(), shops[1].stock())
            if told[0] != told[1]:
                soonest = soonest or seen[pair] + 1
            elif later not in seen:
                seen[later] = seen[pair] + 1
                rows.append(later)
    return len(seen), soonest


def any_offers(seed, plan, many):
    """So many offers for a plan; the same ones for the same seed."""
    chance = random.Random(f"offers {seed}")
    rows = []
    while len(rows) < many:
        word, place, price = chance.choice(("rule", "mark", "drop")), chance.randrange(len(plan)), chance.randint(1, 4)
        names = usable(plan, place)
        if word == "rule":
            # Of each three rules, about two make the place sound: otherwise hardly any choice is good.
            rule = chance.choice((None, "reads", "shown", Key(names), Key([n for n in names if chance.random() < 0.6])))
            rows.append((word, place, rule, price))
        elif word == "mark":
            rows.append((word, place, chance.choice(names), price))
        elif plan.cells:
            rows.append((word, chance.randrange(plan.cells), place, price))
    return tuple(rows)


def price(offers, choice):
    return sum(offers[at][3] for at in choice)


def choices(offers):
    """All choices, in order."""
    return sorted(all_keys(range(len(offers))), key=lambda choice: (price(offers, choice), choice))


def plan_after(plan, offers, choice):
    rules = [rule for recipe, rule in plan.places]
    drops = [set(row) for row in plan.drops]
    for word, at, given, due in [offers[at] for at in choice]:
        if word == "rule":
            rules[at] = given
        elif word == "drop":
            drops[at].add(given)
    for word, at, given, due in [offers[at] for at in choice]:
        if word == "mark" and isinstance(rules[at], Key):
            rules[at] = Key([*rules[at].names, given])
    places = tuple((recipe, rule) for (recipe, old), rule in zip(plan.places, rules))
    return Plan(plan.base, plan.fields, plan.cells, places, drops=tuple(tuple(sorted(row)) for row in drops))


def text_of_form(form):
    word, *parts = form
    if word == "number":
        return str(parts[0])
    if word in LETTERS:
        return LETTERS[word] + str(parts[0])
    texts = [text_of_form(part) for part in parts]
    if word == "when":
        return "({}?{}:{})".format(*texts)
    return "(" + {"sum": "+", "less": "-", "times": "*", "same": "="}[word].join(texts) + ")"


# What may come next in a text of a form, by its character, and what is then still to come.
NEXT = {
    "form": {"(": ["form", "join"], "f": ["to 2"], "c": ["to 1"], "p": ["to 1"], "0": [], "1": [], "2": []},
    "join": {"?": ["form", ":", "form", ")"], "+": ["form", ")"], "-": ["form", ")"], "*": ["form", ")"],
             "=": ["form", ")"]},
    "to 2": {"0": [], "1": [], "2": []}, "to 1": {"0": [], "1": []}, ":": {":": []}, ")": {")": []},
}


def form_goes_wrong(text):
    """The index of the first character with which no text of a form can go on, or where it ends, or None."""
    ahead = ["form"]
    for at, sign in enumerate(text):
        if not ahead or sign not in NEXT[ahead[0]]:
            return at
        ahead = NEXT[ahead[0]][sign] + ahead[1:]
    return len(text) if ahead else None
