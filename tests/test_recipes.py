import collections
import itertools
import unittest

from odd import NO_INTEGERS, NO_STRINGS, ODD, Liar, Thrower

from shortkeys.errors import BadNumber, BadRecipe
from shortkeys.keys import Key
from shortkeys.plans import Plan
from shortkeys.recipes import Recipe, come_to

ZERO, ONE, TWO = ("number", 0), ("number", 1), ("number", 2)
LEAVES = [ZERO, ONE, TWO, ("field", 0), ("field", 1), ("field", 2), ("cell", 0), ("cell", 1), ("place", 0),
          ("place", 1)]
PAIRS = ["sum", "less", "times", "same"]


def chain(many, word="sum", left=True):
    """A form with so many leaves, all nested on one side."""
    form = ("field", 0)
    for _ in range(many - 1):
        form = (word, form, ONE) if left else (word, ONE, form)
    return form


def whens(many):
    """A form of `when` with so many leaves, which is an odd number."""
    form = ("field", 0)
    for _ in range((many - 1) // 2):
        form = ("when", ("cell", 0), ZERO, form)
    return form


def asked(form, base, numbers):
    """What a form comes to, and the names in the order in which it asks for them."""
    names = []

    def ask(name):
        names.append(name)
        return numbers[name]

    return come_to(form, base, ask), names


class FormsTest(unittest.TestCase):
    def refuse(self, form):
        with self.assertRaises(BadRecipe):
            Recipe(form)

    def test_leaves_are_forms(self):
        for form in LEAVES:
            self.assertEqual(Recipe(form).form, form)
            self.assertEqual(len(Recipe(form)), 1)

    def test_leaves_past_their_limits_are_none(self):
        for form in [("number", 3), ("field", 3), ("cell", 2), ("place", 2)]:
            self.refuse(form)
            self.refuse((form[0], -1))
            self.refuse((form[0], 10 ** 40))
            self.refuse(("sum", ONE, form))

    def test_numbers_in_leaves_are_integers(self):
        for word in ("number", "field", "cell", "place"):
            for value in NO_INTEGERS:
                self.refuse((word, value))
                self.refuse(("sum", (word, value), ONE))

    def test_inner_forms(self):
        for word in PAIRS:
            self.assertEqual(Recipe((word, ONE, TWO)).form, (word, ONE, TWO))
            for form in [(word,), (word, ONE), (word, ONE, TWO, ZERO), (word, 0), (word, 0, 1), (word, ONE, "f0")]:
                self.refuse(form)
        self.assertEqual(Recipe(("when", ONE, TWO, ZERO)).form, ("when", ONE, TWO, ZERO))
        for form in [("when",), ("when", ONE), ("when", ONE, TWO), ("when", ONE, TWO, ZERO, ZERO), ("when", 0, 1, 2)]:
            self.refuse(form)

    def test_wrong_lengths_of_leaves(self):
        for word in ("number", "field", "cell", "place"):
            for form in [(word,), (word, 0, 0), (word, ONE, ONE), (word, ONE)]:
                self.refuse(form)

    def test_other_words(self):
        for word in ["", "Number", "number ", "add", "f0", "minus", "if", *NO_STRINGS]:
            for form in [(word,), (word, 0), (word, ONE, TWO), (word, ONE, TWO, ZERO)]:
                self.refuse(form)

    def test_lists_are_no_forms(self):
        for form in [["number", 1], ["sum", ONE, ONE], ("sum", ["number", 1], ONE), ("when", ONE, ONE, ["field", 0])]:
            self.refuse(form)

    def test_values_of_other_kinds(self):
        for value in [None, 0, 1, "number", "f0", *ODD, Recipe(ONE), Key(), Recipe]:
            self.refuse(value)
            self.refuse(("sum", value, ONE))
            self.refuse(("sum", ONE, value))
            self.refuse(("when", ONE, value, ONE))

    def test_nine_leaves_and_ten(self):
        for word in PAIRS:
            for left in (True, False):
                self.assertEqual(len(Recipe(chain(9, word, left))), 9)
                self.assertEqual(Recipe(chain(9, word, left)).form, chain(9, word, left))
                self.refuse(chain(10, word, left))
        self.assertEqual(len(Recipe(whens(9))), 9)
        self.refuse(whens(11))
        self.refuse(("sum", whens(9), ONE))
        three = ("when", ONE, ("field", 2), TWO)
        self.assertEqual(len(Recipe(("when", three, three, three))), 9)
        self.refuse(("when", three, three, ("sum", three, ONE)))
        self.refuse(("when", three, ("sum", three, ONE), three))
        self.refuse(("when", ("sum", three, ONE), three, three))

    def test_very_deep_and_very_wide_tuples(self):
        for many in (11, 50, 100000):
            self.refuse(chain(many))
            self.refuse(chain(many, "less", False))
        shared = ONE
        for _ in range(200):
            shared = ("sum", shared, shared)
        self.refuse(shared)
        endless = ["sum", ONE]
        endless.append(endless)
        self.refuse(endless)
        self.refuse(tuple(endless))
        self.refuse((ONE,) * 100000)

    def test_number_beyond_the_base_may_stand(self):
        self.assertEqual(Recipe(TWO)(2, {}), 2)


class MakersTest(unittest.TestCase):
    def test_class_and_static_methods(self):
        for make, word, many in [(Recipe.field, "field", 3), (Recipe.cell, "cell", 2), (Recipe.place, "place", 2),
                                 (Recipe.number, "number", 3)]:
            for k in range(many):
                self.assertEqual(make(k), Recipe((word, k)))
                self.assertEqual(make(k).form, (word, k))
            for value in [many, many + 1, -1, *NO_INTEGERS, Recipe((word, 0))]:
                with self.assertRaises(BadNumber):
                    make(value)

    def test_by_keyword(self):
        self.assertEqual(Recipe(form=("field", 1)), Recipe.field(k=1))
        self.assertEqual([Recipe.cell(k=1).form, Recipe.place(k=1).form], [("cell", 1), ("place", 1)])
        self.assertEqual(Recipe.number(n=2).form, TWO)
        self.assertEqual(Recipe.field(0).then(one=1, other=2), Recipe.field(0).then(1, 2))
        self.assertEqual(Recipe.field(0).same(other=1), Recipe.field(0).same(1))
        self.assertEqual(Recipe.field(0)(base=2, numbers={"f0": 1}), 1)

    def test_how_they_are_defined(self):
        for name in ("field", "cell", "place"):
            self.assertIsInstance(vars(Recipe)[name], classmethod)
        self.assertIsInstance(vars(Recipe)["number"], staticmethod)
        self.assertIsInstance(vars(Recipe)["names"], property)
        for name in ("same", "then", "__add__", "__radd__", "__sub__", "__rsub__", "__mul__", "__rmul__", "__neg__",
                     "__eq__", "__contains__", "__len__", "__call__"):
            self.assertIn(name, vars(Recipe))
        self.assertEqual(Recipe.__module__, "shortkeys.recipes")


class OperatorsTest(unittest.TestCase):
    def setUp(self):
        self.one, self.other = Recipe.field(1), Recipe.cell(0)

    def binary(self):
        return [
            ("sum", lambda a, b: a + b), ("less", lambda a, b: a - b), ("times", lambda a, b: a * b),
        ]

    def test_two_recipes(self):
        for word, join in self.binary():
            self.assertEqual(join(self.one, self.other).form, (word, ("field", 1), ("cell", 0)))
        self.assertEqual(self.one.same(self.other).form, ("same", ("field", 1), ("cell", 0)))
        self.assertEqual(self.one.then(self.other, self.one).form, ("when", ("field", 1), ("cell", 0), ("field", 1)))

    def test_a_number_on_either_side(self):
        for word, join in self.binary():
            for n in (0, 1, 2):
                self.assertEqual(join(self.one, n).form, (word, ("field", 1), ("number", n)))
                self.assertEqual(join(n, self.one).form, (word, ("number", n), ("field", 1)))

    def test_numbers_as_arguments(self):
        for n in (0, 1, 2):
            self.assertEqual(self.one.same(n).form, ("same", ("field", 1), ("number", n)))
            self.assertEqual(self.one.then(n, self.other).form, ("when", ("field", 1), ("number", n), ("cell", 0)))
            self.assertEqual(self.one.then(self.other, n).form, ("when", ("field", 1), ("cell", 0), ("number", n)))
            self.assertEqual(self.one.then(n, 2 - n).form, ("when", ("field", 1), ("number", n), ("number", 2 - n)))

    def test_negative(self):
        self.assertEqual((-self.one).form, ("less", ZERO, ("field", 1)))
        self.assertEqual(-self.one, 0 - self.one)
        self.assertEqual((--self.one).form, ("less", ZERO, ("less", ZERO, ("field", 1))))

    def test_wrong_operands(self):
        plan = Plan(2, 1, 0, ((Recipe.field(0), None),))
        for value in [None, 3, "reads", "f0", ONE, ("field", 0), (0,), Key(), Key.of("f0"), plan, Recipe, *ODD]:
            for word, join in self.binary():
                with self.assertRaises(BadRecipe):
                    join(self.one, value)
                if not isinstance(value, (Liar, Thrower)):
                    with self.assertRaises(BadRecipe):
                        join(value, self.one)
            for call in (lambda: self.one.same(value), lambda: self.one.then(value, self.other),
                         lambda: self.one.then(self.other, value), lambda: self.one.then(value, value),
                         lambda: self.one.then(1, value), lambda: self.one.then(value, 1)):
                with self.assertRaises(BadRecipe):
                    call()

    def test_too_long(self):
        for many in range(1, 9):
            long, short = Recipe(chain(many)), Recipe(chain(9 - many, "less"))
            for word, join in self.binary():
                self.assertEqual(len(join(long, short)), 9)
                self.assertEqual(join(long, short).form, (word, long.form, short.form))
                with self.assertRaises(BadRecipe):
                    join(long, short + 1)
                with self.assertRaises(BadRecipe):
                    join(1 + long, short)
            self.assertEqual(len(long.same(short)), 9)
            with self.assertRaises(BadRecipe):
                long.same(short * 1)

    def test_too_long_with_one_more_number(self):
        eight, nine = Recipe(chain(8)), Recipe(chain(9))
        for call in (lambda r: r + 1, lambda r: 1 + r, lambda r: r - 1, lambda r: 1 - r, lambda r: r * 1,
                     lambda r: 1 * r, lambda r: -r, lambda r: r.same(1), lambda r: Recipe.field(0).same(r)):
            self.assertEqual(len(call(eight)), 9)
            with self.assertRaises(BadRecipe):
                call(nine)

    def test_too_long_with_then(self):
        seven, eight = Recipe(chain(7)), Recipe(chain(8))
        for call in (lambda r: r.then(0, 1), lambda r: Recipe.cell(0).then(r, 2), lambda r: Recipe.cell(1).then(1, r)):
            self.assertEqual(len(call(seven)), 9)
            with self.assertRaises(BadRecipe):
                call(eight)

    def test_several_faults_at_once(self):
        nine = Recipe(chain(9))
        for value in (True, 3, None, "f0"):
            for call in (lambda: nine + value, lambda: value - nine, lambda: nine.same(value),
                         lambda: nine.then(value, nine)):
                with self.assertRaises(BadRecipe):
                    call()

    def test_nothing_is_changed(self):
        before = (self.one.form, self.other.form)
        kept = self.one
        kept += self.other
        kept -= 1
        kept *= 2
        self.assertEqual(kept.form, ("times", ("less", ("sum", ("field", 1), ("cell", 0)), ONE), TWO))
        -self.one, self.one.same(self.other), self.one.then(self.other, 2)
        self.assertEqual((self.one.form, self.other.form), before)

    def test_several_operators(self):
        a, b = Recipe.field(0), Recipe.field(1)
        self.assertEqual((2 * a + b).form, ("sum", ("times", TWO, ("field", 0)), ("field", 1)))
        self.assertEqual((1 - a - b).form, ("less", ("less", ONE, ("field", 0)), ("field", 1)))


class NamesTest(unittest.TestCase):
    def test_in_their_order_each_once(self):
        names = ["f0", "f1", "f2", "c0", "c1", "p0", "p1"]
        leaves = LEAVES[3:]
        form = leaves[0]
        for leaf in leaves[1:]:
            form = ("sum", leaf, form)
        self.assertEqual(Recipe(form).names, tuple(names))
        for one, other in itertools.product(range(7), repeat=2):
            found = Recipe(("less", leaves[one], leaves[other])).names
            self.assertIsInstance(found, tuple)
            self.assertEqual(found, tuple(names[at] for at in sorted({one, other})))

    def test_numbers_have_no_names(self):
        self.assertEqual(Recipe(("sum", ONE, TWO)).names, ())

    def test_contains(self):
        recipe = Recipe.field(1).then(Recipe.place(0), Recipe.cell(1))
        for name in ["f0", "f1", "f2", "c0", "c1", "p0", "p1"]:
            self.assertIs(name in recipe, name in ("f1", "c1", "p0"))
        for value in [None, 0, 1, ONE, ("field", 1), ("f1",), *ODD, recipe, Key.of("f1")]:
            self.assertIs(value in recipe, False)

    def test_length(self):
        self.assertEqual(len(Recipe(("when", ONE, ("sum", TWO, ONE), ("field", 0)))), 4)
        self.assertEqual(len(-Recipe.cell(0)), 2)


class CallTest(unittest.TestCase):
    def test_pairs(self):
        for base in (2, 3):
            for a, b in itertools.product(range(base), repeat=2):
                numbers = {"f0": a, "c1": b}
                want = {"sum": (a + b) % base, "less": (a - b) % base, "times": a * b % base, "same": int(a == b)}
                for word in PAIRS:
                    found = Recipe((word, ("field", 0), ("cell", 1)))(base, numbers)
                    self.assertEqual(found, want[word])
                    self.assertIs(type(found), int)

    def test_numbers(self):
        for base, n in itertools.product((2, 3), range(3)):
            self.assertEqual(Recipe.number(n)(base, {}), n)

    def test_number_not_below_the_base(self):
        two, zero = Recipe.number(2), Recipe.number(0)
        self.assertEqual(two(2, {}), 2)
        self.assertEqual((two + 0)(2, {}), 0)
        self.assertEqual((two - 1)(2, {}), 1)
        self.assertEqual((two * 2)(2, {}), 0)
        self.assertEqual(two.same(0)(2, {}), 0)
        self.assertEqual(two.same(2)(2, {}), 1)
        self.assertEqual(two.then(1, 0)(2, {}), 1)
        self.assertEqual(zero.then(1, two)(2, {}), 2)
        self.assertEqual(two.then(two, 0)(2, {}), 2)

    def test_when(self):
        recipe = Recipe.field(0).then(Recipe.field(1), Recipe.field(2))
        for t, a, b in itertools.product(range(3), repeat=3):
            self.assertEqual(recipe(3, {"f0": t, "f1": a, "f2": b}), b if t == 0 else a)

    def test_negative(self):
        for base in (2, 3):
            for n in range(base):
                self.assertEqual((-Recipe.place(1))(base, {"p1": n}), -n % base)

    def test_nested(self):
        recipe = Recipe.field(0).same(1).then(2 * Recipe.place(0) - Recipe.cell(0), 1 - Recipe.place(0))
        for f, c, p in itertools.product(range(3), repeat=3):
            want = (2 * p - c) % 3 if f == 1 else (1 - p) % 3
            self.assertEqual(recipe(3, {"p0": p, "c0": c, "f0": f}), want)

    def test_more_numbers_than_names(self):
        numbers = {"f0": 1, "f1": None, "c0": 17, 5: "x", None: None, ("f0",): []}
        self.assertEqual(Recipe.field(0)(2, numbers), 1)
        self.assertEqual(numbers, {"f0": 1, "f1": None, "c0": 17, 5: "x", None: None, ("f0",): []})

    def test_wrong_base(self):
        for base in [0, 1, 4, -2, None, "2", (2,), *ODD]:
            with self.assertRaises(BadNumber):
                Recipe.field(0)(base, {"f0": 0})
            with self.assertRaises(BadNumber):
                Recipe.number(0)(base, {})
            with self.assertRaises(BadNumber):
                Recipe.field(0)(base, None)

    def test_wrong_numbers(self):
        for value in [None, 0, 1, "f0", [("f0", 0)], (("f0", 0),), ["f0"], set(), Liar(), Key.of("f0"), nothing]:
            with self.assertRaises(BadNumber):
                Recipe.field(0)(2, value)
            with self.assertRaises(BadNumber):
                Recipe.number(1)(2, value)

    def test_missing_names(self):
        recipe = Recipe.field(0).then(Recipe.field(1), Recipe.cell(0))
        whole = {"f0": 0, "f1": 1, "c0": 1}
        self.assertEqual(recipe(2, whole), 1)
        for name in whole:
            with self.assertRaises(BadNumber):
                recipe(2, {other: whole[other] for other in whole if other != name})

    def test_numbers_that_are_none_for_the_base(self):
        # f1 is not asked for here, and must have a number all the same.
        recipe = Recipe.field(0).then(Recipe.field(1), 1)
        for value in [*NO_INTEGERS, *ODD]:
            with self.assertRaises(BadNumber):
                recipe(3, {"f0": value, "f1": 0})
            with self.assertRaises(BadNumber):
                recipe(3, {"f0": 0, "f1": value})
        for base in (2, 3):
            self.assertEqual(recipe(base, {"f0": 0, "f1": base - 1}), 1)
            with self.assertRaises(BadNumber):
                recipe(base, {"f0": 0, "f1": base})
            with self.assertRaises(BadNumber):
                recipe(base, {"f0": 0, "f1": -1})

    def test_argument_is_not_modified(self):
        numbers = collections.defaultdict(int)
        with self.assertRaises(BadNumber):
            Recipe.field(0)(2, numbers)
        self.assertEqual(dict(numbers), {})
        numbers = {"c0": 1, "f0": 1}
        (Recipe.field(0) + Recipe.cell(0))(2, numbers)
        self.assertEqual(list(numbers.items()), [("c0", 1), ("f0", 1)])

    def test_order_of_asking(self):
        f0, f1, c0, p0 = ("field", 0), ("field", 1), ("cell", 0), ("place", 0)
        numbers = {"f0": 0, "f1": 1, "c0": 1, "p0": 0}
        for word in PAIRS:
            self.assertEqual(asked((word, p0, f0), 2, numbers)[1], ["p0", "f0"])
            self.assertEqual(asked((word, ("sum", c0, f1), (word, p0, c0)), 2, numbers)[1], ["c0", "f1", "p0", "c0"])
        self.assertEqual(asked(("when", f0, f1, c0), 2, numbers), (1, ["f0", "c0"]))
        self.assertEqual(asked(("when", f1, p0, c0), 2, numbers), (0, ["f1", "p0"]))
        form = ("when", ("less", f1, c0), f1, ("when", f1, f1, f0))
        self.assertEqual(asked(form, 2, numbers), (1, ["f1", "c0", "f1", "f1"]))
        self.assertEqual(asked(TWO, 2, {}), (2, []))


def nothing():
    return {}


class EqualityTest(unittest.TestCase):
    def test_equal_if_the_forms_are(self):
        forms = [*LEAVES, ("sum", ONE, TWO), ("sum", TWO, ONE), ("less", ONE, TWO), ("when", ONE, TWO, ONE), chain(9)]
        for one, other in itertools.product(forms, repeat=2):
            self.assertIs(Recipe(one) == Recipe(other), one == other)
            self.assertIs(Recipe(one) != Recipe(other), one != other)

    def test_another_class(self):
        plan = Plan(2, 1, 0, ((Recipe.field(0), None),))
        for other in (Key(), Key.of("f0"), plan):
            self.assertIs(Recipe.field(0) == other, False)
            self.assertIs(other == Recipe.field(0), False)
            self.assertIs(Recipe.field(0) != other, True)

    def test_made_in_two_ways(self):
        self.assertEqual(Recipe(("less", ZERO, ("cell", 1))), -Recipe.cell(1))

    def test_no_form_by_value_of_other_kinds(self):
        # True equals 1, but a form with it is none.
        with self.assertRaises(BadRecipe):
            Recipe(("field", True))


if __name__ == "__main__":
    unittest.main()
