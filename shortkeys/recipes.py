"""Recipes: forms over numbers and names, and what they come to."""

from shortkeys.errors import BadNumber, BadRecipe
from shortkeys.names import in_order, is_whole

MOST_LEAVES = 9

# A form of the first four kinds is called a leaf: it has no parts, but a number up to this one.
HIGHEST = {"number": 2, "field": 2, "cell": 1, "place": 1}
LETTERS = {"field": "f", "cell": "c", "place": "p"}
# How many parts the forms of the other kinds have.
WIDTHS = {"sum": 2, "less": 2, "times": 2, "same": 2, "when": 3}


class Recipe:
    """A form that comes to a number, by a base and the numbers of its names."""

    def __init__(self, form):
        leaves = leaves_of(form)
        if leaves is None:
            raise BadRecipe("not a form, or one that is too long")
        self.form = form
        self.leaves = tuple(leaves)

    @classmethod
    def field(cls, k):
        """Return the recipe that gives the number of a field."""
        return cls(leaf_form("field", k))

    @classmethod
    def cell(cls, k):
        """Return the recipe that gives the number of a cell."""
        return cls(leaf_form("cell", k))

    @classmethod
    def place(cls, k):
        """Return the recipe that gives the number of a place."""
        return cls(leaf_form("place", k))

    @staticmethod
    def number(n):
        """Return the recipe that gives this number."""
        return Recipe(leaf_form("number", n))

    @property
    def names(self):
        """The tuple of the names in the form, in order."""
        return in_order([name_of(leaf) for leaf in self.leaves if leaf[0] in LETTERS])

    def same(self, other):
        """Return the recipe that tells whether both come to the same."""
        return Recipe(("same", self.form, form_of(other)))

    def then(self, one, other):
        """Return the recipe that gives what one comes to if this does not come to 0, and else the other."""
        return Recipe(("when", self.form, form_of(one), form_of(other)))

    def __add__(self, other):
        return Recipe(("sum", self.form, form_of(other)))

    def __radd__(self, other):
        return Recipe(("sum", form_of(other), self.form))

    def __sub__(self, other):
        return Recipe(("less", self.form, form_of(other)))

    def __rsub__(self, other):
        return Recipe(("less", form_of(other), self.form))

    def __mul__(self, other):
        return Recipe(("times", self.form, form_of(other)))

    def __rmul__(self, other):
        return Recipe(("times", form_of(other), self.form))

    def __neg__(self):
        return Recipe(("less", ("number", 0), self.form))

    def __contains__(self, x):
        return isinstance(x, str) and x in self.names

    def __len__(self):
        return len(self.leaves)

    def __call__(self, base, numbers):
        if not is_whole(base, 2, 3):
            raise BadNumber("the base is 2 or 3")
        if not isinstance(numbers, dict):
            raise BadNumber("the numbers are a dict")
        # Also names that are not asked for in the end must have numbers.
        if not all([is_whole(numbers.get(name), 0, base - 1) for name in self.names]):
            raise BadNumber("each name has a number from 0 to below the base")
        return come_to(self.form, base, lambda asked: numbers[asked])

    def __eq__(self, other):
        return isinstance(other, Recipe) and self.form == other.form


def kind_of(form):
    """Return the word of a form that has as many parts, or such a number, as its word wants; otherwise None."""
    # The word is compared only if it is a string: other objects may claim to equal one, or have no hash.
    if not isinstance(form, tuple) or len(form) < 2 or not isinstance(form[0], str):
        return None
    word = form[0]
    if word in WIDTHS and len(form) == 1 + WIDTHS[word]:
        return word
    if word in HIGHEST and len(form) == 2 and is_whole(form[1], 0, HIGHEST[word]):
        return word
    return None


def leaves_of(form):
    """Return the list of the leaves of a form, from the left, or None if it is no form or is too long."""
    leaves = []
    waiting = [form]
    # Each part that waits has a leaf at least: so tuples of any depth, or with endless parts, end early.
    while waiting and len(leaves) + len(waiting) <= MOST_LEAVES:
        part, waiting = waiting[0], waiting[1:]
        word = kind_of(part)
        if word is None:
            return None
        if word in HIGHEST:
            leaves.append(part)
        else:
            waiting = list(part[1:]) + waiting
    return None if waiting else leaves


def leaf_form(word, k):
    """Return the form of a leaf."""
    if not is_whole(k, 0, HIGHEST[word]):
        raise BadNumber("no number for such a form")
    return (word, k)


def name_of(leaf):
    """Return the name for which a leaf asks."""
    return f"{LETTERS[leaf[0]]}{leaf[1]}"


def form_of(operand):
    """Return the form of a recipe, or of the recipe for which a number stands."""
    if isinstance(operand, Recipe):
        return operand.form
    if not is_whole(operand, 0, HIGHEST["number"]):
        raise BadRecipe("neither a recipe nor a number from 0 to 2")
    return ("number", operand)


def come_to(form, base, ask):
    """Return what a form comes to; ask(name) gives the number of a name each time that it is asked for."""
    word = form[0]
    if word == "number":
        return form[1]
    if word in LETTERS:
        return ask(name_of(form))
    first = come_to(form[1], base, ask)
    if word == "when":
        return come_to(form[2] if first != 0 else form[3], base, ask)
    return joined(word, base, first, come_to(form[2], base, ask))


def joined(word, base, first, second):
    """Return what a form of two parts comes to, from what both come to."""
    if word == "same":
        return 1 if first == second else 0
    if word == "sum":
        return (first + second) % base
    if word == "less":
        return (first - second) % base
    return (first * second) % base
