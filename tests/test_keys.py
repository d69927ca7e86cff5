import itertools
import unittest

from odd import NO_STRINGS, ODD

from shortkeys.errors import BadName, BadRecipe
from shortkeys.keys import Key
from shortkeys.plans import Plan
from shortkeys.recipes import Recipe

NAMES = ("f0", "f1", "f2", "c0", "c1", "p0", "p1")
SETS = [names for many in range(8) for names in itertools.combinations(NAMES, many)]


class MakingTest(unittest.TestCase):
    def test_empty(self):
        for key in (Key(), Key([]), Key(()), Key.of(), Key(names=())):
            self.assertEqual(key.names, ())
            self.assertEqual(len(key), 0)
            self.assertIs(bool(key), False)

    def test_full(self):
        for key in (Key(NAMES), Key(list(NAMES)), Key(NAMES[::-1]), Key.of(*NAMES), Key.of(*NAMES, *NAMES)):
            self.assertEqual(key.names, NAMES)
            self.assertEqual(len(key), 7)
            self.assertIs(bool(key), True)

    def test_in_any_order_and_more_than_once(self):
        for names in itertools.product(NAMES, repeat=3):
            want = tuple(name for name in NAMES if name in names)
            for key in (Key(names), Key(list(names)), Key.of(*names)):
                self.assertEqual(key.names, want)
                self.assertEqual(len(key), len(want))
                self.assertIsInstance(key.names, tuple)

    def test_no_list_or_tuple(self):
        for value in [None, 0, 1, "f0", "", *[odd for odd in ODD if not isinstance(odd, (list, tuple))], Key(),
                      Key.of("f0"), {"f0": 1}, {"f0"}, iter(["f0"]), (name for name in NAMES)]:
            with self.assertRaises(BadName):
                Key(value)

    def test_something_in_it_is_no_name(self):
        for value in [*ODD, *NO_STRINGS, ["f0"], ("f0",), Key.of("f0"), Recipe.field(0)]:
            for names in ([value], [value, "f0"], ["f0", value], ["f0", "c1", value, "p0"]):
                for make in (lambda: Key(names), lambda: Key(tuple(names)), lambda: Key.of(*names)):
                    with self.assertRaises(BadName):
                        make()

    def test_the_list_is_not_kept_or_modified(self):
        names = ["p0", "f1", "f1"]
        key = Key(names)
        self.assertEqual(names, ["p0", "f1", "f1"])
        names.append("c0")
        names[0] = "f0"
        self.assertEqual(key.names, ("f1", "p0"))

    def test_how_they_are_defined(self):
        self.assertIsInstance(vars(Key)["of"], classmethod)
        self.assertIsInstance(vars(Key)["names"], property)
        for name in ("__or__", "__and__", "__sub__", "__xor__", "__le__", "__lt__", "__contains__", "__len__",
                     "__eq__"):
            self.assertIn(name, vars(Key))
        self.assertEqual(Key.__module__, "shortkeys.keys")


class OperatorsTest(unittest.TestCase):
    def test_all_pairs(self):
        for one, other in itertools.product(SETS, repeat=2):
            a, b, left, right = set(one), set(other), Key(one), Key(other)
            for key, want in ((left | right, a | b), (left & right, a & b), (left - right, a - b),
                              (left ^ right, a ^ b)):
                self.assertIs(type(key), Key)
                self.assertEqual(key.names, tuple(name for name in NAMES if name in want))
            self.assertIs(left <= right, a <= b)
            self.assertIs(left < right, a < b)
            self.assertIs(left == right, a == b)
            self.assertIs(left != right, a != b)
            self.assertEqual((left.names, right.names), (one, other))

    def test_in_place_makes_new_keys(self):
        kept = key = Key.of("f0")
        key |= Key.of("c0")
        self.assertEqual((key.names, kept.names), (("f0", "c0"), ("f0",)))

    def test_contains(self):
        for names in SETS:
            for name in NAMES:
                self.assertIs(name in Key(names), name in names)
        for value in [None, 0, 1, ("f0",), *ODD, Key(), Recipe.field(0)]:
            self.assertIs(value in Key(NAMES), False)

    def test_truth_and_length(self):
        for names in SETS:
            self.assertEqual(len(Key(names)), len(names))
            self.assertIs(bool(Key(names)), len(names) > 0)

    def test_another_class(self):
        plan = Plan(2, 1, 0, ((Recipe.field(0), None),))
        for other in (Recipe.field(0), plan):
            self.assertIs(Key.of("f0") == other, False)
            self.assertIs(Key.of("f0") != other, True)
            self.assertIs(other == Key.of("f0"), False)

    def test_with_a_recipe_the_error_of_recipes(self):
        for join in (lambda a, b: a + b, lambda a, b: a - b, lambda a, b: a * b):
            with self.assertRaises(BadRecipe):
                join(Key.of("f0"), Recipe.field(0))
            with self.assertRaises(BadRecipe):
                join(Recipe.field(0), Key.of("f0"))


if __name__ == "__main__":
    unittest.main()
