import itertools
import unittest

from odd import NO_INTEGERS, NO_TUPLES, ODD, Liar

from shortkeys.errors import BadKey, BadPlace, BadPlan
from shortkeys.keys import Key
from shortkeys.plans import Plan
from shortkeys.recipes import Recipe

NAMES = ("f0", "f1", "f2", "c0", "c1", "p0", "p1")
WHO = Recipe.field(0)
ONE = ((WHO, None),)
RULES = [None, "reads", "shown", Key(), Key.of("f0")]
NO_RULES = ["", "none", "key", "Reads", "reads ", "f0", 0, 1, ("f0",), ["f0"], (), WHO, *ODD]


def leaf(name):
    """The recipe of a name."""
    return {"f": Recipe.field, "c": Recipe.cell, "p": Recipe.place}[name[0]](int(name[1]))


class PlanTest(unittest.TestCase):
    def refuse(self, part, *given, **more):
        with self.assertRaises(BadPlan) as caught:
            Plan(*given, **more)
        self.assertEqual(caught.exception.part, part)

    def assertPlan(self, *given, **more):
        self.assertIsInstance(Plan(*given, **more), Plan)


class PartsTest(PlanTest):
    def test_all_sizes(self):
        for base, fields, cells in itertools.product((2, 3), (1, 2, 3), (0, 1, 2)):
            if (base, fields, cells) == (3, 3, 2):
                continue
            plan = Plan(base, fields, cells, ONE)
            self.assertEqual((plan.base, plan.fields, plan.cells, plan.places), (base, fields, cells, ONE))
            self.assertEqual(plan.drops, ((),) * cells)

    def test_by_keyword(self):
        plan = Plan(base=2, fields=1, cells=1, places=ONE, drops=((0,),))
        self.assertEqual(plan, Plan(2, 1, 1, ONE, drops=((0,),)))
        with self.assertRaises(TypeError):
            Plan(2, 1, 1, ONE, ((0,),))

    def test_base(self):
        for base in [0, 1, 4, -2, -3, *NO_INTEGERS, *ODD]:
            self.refuse("BASE", base, 1, 0, ONE)

    def test_fields(self):
        for base, fields in itertools.product((2, 3), [0, 4, 5, -1, *NO_INTEGERS, *ODD]):
            self.refuse("FIELDS", base, fields, 0, ONE)

    def test_cells(self):
        for base, cells in itertools.product((2, 3), [3, 4, -1, *NO_INTEGERS, *ODD]):
            self.refuse("CELLS", base, 1, cells, ONE)

    def test_limit_of_81(self):
        for fields, cells in ((3, 1), (2, 2)):
            self.assertEqual(len(Plan(3, fields, cells, ONE).situations()), 81)
        self.refuse("CELLS", 3, 3, 2, ONE)
        self.assertEqual(len(Plan(2, 3, 2, ONE).situations()), 32)

    def test_places(self):
        for many in (1, 2, 3):
            self.assertEqual(len(Plan(2, 1, 0, ONE * many)), many)
        for places in [(), ONE * 4, ONE * 100, [(WHO, None)], *NO_TUPLES, {0: (WHO, None)}, (WHO, None), WHO]:
            self.refuse("PLACES", 2, 1, 0, places)

    def test_pairs(self):
        wrong = [None, 0, WHO, (), (WHO,), (WHO, None, None), [WHO, None], (None, WHO), (None, None), ("f0", None),
                 (("field", 0), None), (Key(), None), (0, None), (Recipe, None), *ODD]
        for pair in [*wrong, *[(odd, None) for odd in ODD]]:
            self.refuse("PLACES", 2, 1, 0, (pair,))
            self.refuse("PLACES", 2, 1, 0, ((WHO, None), pair))
            self.refuse("PLACES", 2, 1, 0, (pair, (WHO, None)))
            self.refuse("PLACES", 2, 1, 0, ((WHO, None), (WHO, "reads"), pair))

    def test_names_in_recipes(self):
        for fields, cells, at in itertools.product((1, 2, 3), (0, 1, 2), (0, 1, 2)):
            usable = NAMES[:fields] + NAMES[3:3 + cells] + NAMES[5:5 + at]
            for name in NAMES:
                for recipe in (leaf(name), 1 - leaf(name), WHO.then(1, leaf(name)), WHO.same(leaf(name))):
                    places = ((WHO, None),) * at + ((recipe, None),)
                    if name in usable:
                        self.assertEqual(Plan(2, fields, cells, places)[at], (recipe, None))
                    else:
                        self.refuse("PLACES", 2, fields, cells, places)

    def test_a_place_that_names_itself_or_a_later_one(self):
        first, second = Recipe.place(0), Recipe.place(1)
        self.refuse("PLACES", 2, 1, 0, ((first, None),))
        self.refuse("PLACES", 2, 1, 0, ((second, None), (WHO, None)))
        self.refuse("PLACES", 2, 1, 0, ((WHO, None), (second, None)))
        self.refuse("PLACES", 2, 1, 0, ((first + WHO, None), (WHO, None), (WHO, None)))
        self.refuse("PLACES", 2, 1, 0, ((WHO, None), (WHO + second, None), (WHO, None)))
        self.assertPlan(2, 1, 0, ((WHO, None), (first, None), (second + first, None)))
        self.assertPlan(2, 1, 0, ((WHO, None), (WHO, None), (second, None)))

    def test_numbers_in_recipes(self):
        for n in (0, 1):
            self.assertPlan(2, 1, 0, ((WHO + n, None),))
        self.assertPlan(3, 1, 0, ((WHO + 2, None), (Recipe.number(2), None)))
        for recipe in (Recipe.number(2), WHO + 2, 2 * WHO, WHO.then(1, 2), WHO.then(WHO.same(2), 0)):
            self.refuse("PLACES", 2, 1, 0, ((recipe, None),))
            self.refuse("PLACES", 2, 1, 0, ((WHO, None), (recipe, None)))
            self.assertPlan(3, 1, 0, ((recipe, None),))

    def test_rules(self):
        for rule in RULES:
            plan = Plan(2, 1, 0, ((WHO, rule),))
            self.assertEqual(plan[0], (WHO, rule))
        for rule in NO_RULES:
            self.refuse("PLACES", 2, 1, 0, ((WHO, rule),))
            self.refuse("PLACES", 2, 1, 0, ((WHO, None), (WHO, rule)))

    def test_names_in_keys(self):
        for fields, cells, at in itertools.product((1, 2, 3), (0, 1, 2), (0, 1, 2)):
            usable = NAMES[:fields] + NAMES[3:3 + cells] + NAMES[5:5 + at]
            before = ((WHO, None),) * at
            self.assertPlan(2, fields, cells, (*before, (WHO, Key(usable))))
            for name in NAMES:
                for key in (Key.of(name), Key.of("f0", name)):
                    places = (*before, (WHO, key))
                    if name in usable:
                        self.assertEqual(Plan(2, fields, cells, places)[at], (WHO, key))
                    else:
                        self.refuse("PLACES", 2, fields, cells, places)

    def test_drops(self):
        for many in (1, 2, 3):
            fitting = [row for length in range(many + 1) for row in itertools.combinations(range(many), length)]
            for rows in itertools.product(fitting, repeat=2):
                self.assertEqual(Plan(2, 1, 2, ONE * many, drops=rows).drops, rows)
            for row in fitting:
                self.assertEqual(Plan(2, 1, 1, ONE * many, drops=(row,)).drops, (row,))
        self.assertEqual(Plan(2, 1, 0, ONE, drops=()).drops, ())

    def test_wrong_drops(self):
        three = ONE * 3
        for row in [(3,), (-1,), (1, 0), (0, 0), (0, 2, 1), (0, 1, 2, 3), (0, 1, 1), *NO_TUPLES,
                    *[(odd,) for odd in ODD], *[(0, odd) for odd in ODD], (0, None), ("0",), [0]]:
            self.refuse("DROPS", 2, 1, 1, three, drops=(row,))
            self.refuse("DROPS", 2, 1, 2, three, drops=((0,), row))
            self.refuse("DROPS", 2, 1, 2, three, drops=(row, ()))
        for cells, drops in ((0, ((),)), (1, ()), (1, ((), ())), (2, ((),)), (2, ((), (), ())), (1, (0,)), (2, (0, 1))):
            self.refuse("DROPS", 2, 1, cells, three, drops=drops)
        for drops in [value for value in NO_TUPLES if value is not None]:
            self.refuse("DROPS", 2, 1, 1, three, drops=drops)
        self.refuse("DROPS", 2, 1, 1, ONE, drops=((1,),))
        self.refuse("DROPS", 2, 1, 1, ONE, drops=[[0]])

    def test_several_faults_at_once(self):
        parts = ("BASE", "FIELDS", "CELLS", "PLACES", "DROPS")
        good, bad = (2, 1, 0, ONE, None), (4, 0, 3, (), 0)
        for faults in itertools.product((False, True), repeat=5):
            given = [bad[at] if faults[at] else good[at] for at in range(5)]
            if any(faults):
                self.refuse(parts[faults.index(True)], *given[:4], drops=given[4])
        self.refuse("CELLS", 3, 3, 2, None, drops=5)
        self.refuse("BASE", True, 3, 2, ((Recipe.number(2), 7),))
        self.refuse("PLACES", 2, 1, 1, ((Recipe.place(0), "key"),), drops=((9,),))
        self.refuse("BASE", None, None, None, None, drops=Liar())


class MethodsTest(PlanTest):
    def setUp(self):
        self.places = ((WHO, None), (Recipe.place(0) + Recipe.cell(0), Key.of("p0")), (Recipe.place(1), "reads"))
        self.plan = Plan(3, 2, 1, self.places, drops=((0, 2),))

    def test_properties(self):
        plan = self.plan
        self.assertEqual((plan.base, plan.fields, plan.cells), (3, 2, 1))
        self.assertEqual((plan.places, plan.drops), (self.places, ((0, 2),)))
        self.assertIsInstance(plan.places, tuple)
        for name in ("base", "fields", "cells", "places", "drops"):
            self.assertIsInstance(vars(Plan)[name], property)
            with self.assertRaises(AttributeError):
                setattr(plan, name, 2)

    def test_no_drops(self):
        for cells in (0, 1, 2):
            self.assertEqual(Plan(2, 1, cells, ONE).drops, ((),) * cells)
            self.assertEqual(Plan(2, 1, cells, ONE, drops=None).drops, ((),) * cells)

    def test_length_and_items(self):
        self.assertEqual(len(self.plan), 3)
        for at in range(3):
            self.assertEqual(self.plan[at], self.places[at])
            self.assertIsInstance(self.plan[at], tuple)

    def wrong_places(self):
        return [3, 4, -1, -3, *NO_INTEGERS, *ODD, slice(0, 1), slice(None)]

    def test_wrong_places(self):
        for at in self.wrong_places():
            for call in (lambda: self.plan[at], lambda: self.plan.usable(at), lambda: self.plan.ruled(at, None),
                         lambda: self.plan.ruled(at, "none")):
                with self.assertRaises(BadPlace):
                    call()
        with self.assertRaises(BadPlace):
            Plan(2, 1, 0, ONE)[1]

    def test_usable(self):
        for fields, cells, many in itertools.product((1, 2, 3), (0, 1, 2), (1, 2, 3)):
            plan = Plan(2, fields, cells, ONE * many)
            for at in range(many):
                want = NAMES[:fields] + NAMES[3:3 + cells] + NAMES[5:5 + at]
                self.assertIs(type(plan.usable(at)), Key)
                self.assertEqual(plan.usable(at).names, want)
        self.assertEqual(self.plan.usable(place=1), Key.of("f0", "f1", "c0", "p0"))

    def test_situations(self):
        for base, fields, cells in itertools.product((2, 3), (1, 2, 3), (0, 1, 2)):
            if (base, fields, cells) == (3, 3, 2):
                continue
            found = Plan(base, fields, cells, ONE).situations()
            self.assertIsInstance(found, list)
            self.assertEqual(found, sorted(found))
            self.assertEqual(set(found), set(itertools.product(itertools.product(range(base), repeat=fields),
                                                               itertools.product(range(base), repeat=cells))))
            self.assertEqual(len(found), base ** (fields + cells))
        self.assertEqual(Plan(2, 1, 1, ONE).situations(),
                         [((0,), (0,)), ((0,), (1,)), ((1,), (0,)), ((1,), (1,))])
        self.assertEqual(Plan(2, 1, 0, ONE).situations(), [((0,), ()), ((1,), ())])

    def test_situations_are_new(self):
        first = self.plan.situations()
        first.clear()
        self.assertEqual(len(self.plan.situations()), 27)

    def test_ruled(self):
        for at in range(3):
            for rule in (None, "reads", "shown", Key(), Key.of("f1"), self.plan.usable(at)):
                found = self.plan.ruled(at, rule)
                self.assertEqual(found[at], (self.places[at][0], rule))
                self.assertEqual([found[k] for k in range(3) if k != at], [self.places[k] for k in range(3) if k != at])
                self.assertEqual((found.base, found.fields, found.cells, found.drops), (3, 2, 1, ((0, 2),)))
        self.assertEqual(self.plan.ruled(place=0, rule="reads")[0], (WHO, "reads"))
        self.assertEqual(self.plan, Plan(3, 2, 1, self.places, drops=((0, 2),)))

    def test_wrong_rules(self):
        for rule in [*NO_RULES, Key.of("f2"), Key.of("c1"), Key.of("p1"), Key(NAMES), Key.of("f0", "p1")]:
            for at in (0, 1):
                with self.assertRaises(BadKey):
                    self.plan.ruled(at, rule)
        with self.assertRaises(BadKey):
            self.plan.ruled(0, Key.of("p0"))
        self.assertEqual(self.plan.ruled(1, Key.of("p0"))[1][1], Key.of("p0"))
        self.assertEqual(self.plan.ruled(2, Key.of("p1"))[2][1], Key.of("p1"))

    def test_place_before_rule(self):
        for at, rule in itertools.product(self.wrong_places(), ("none", Key(NAMES), 0, Liar())):
            with self.assertRaises(BadPlace):
                self.plan.ruled(at, rule)

    def test_not_iterated_over(self):
        for call in (iter, list, tuple, lambda plan: [*plan], lambda plan: [pair for pair in plan],
                     lambda plan: plan.__iter__()):
            with self.assertRaises(TypeError):
                call(self.plan)

    def test_equality(self):
        same = Plan(3, 2, 1, ((Recipe(("field", 0)), None), (Recipe.place(0) + Recipe.cell(0), Key(["p0", "p0"])),
                              (Recipe.place(1), "reads")), drops=((0, 2),))
        self.assertIs(self.plan == same, True)
        self.assertIs(self.plan != same, False)
        others = [
            Plan(3, 3, 1, self.places, drops=((0, 2),)), Plan(3, 2, 1, self.places, drops=((0,),)),
            Plan(3, 2, 1, self.places), Plan(3, 2, 2, self.places, drops=((0, 2), ())),
            Plan(3, 2, 1, self.places[:2], drops=((0,),)), self.plan.ruled(0, "shown"), self.plan.ruled(1, Key()),
            self.plan.ruled(2, None), Plan(2, 2, 1, self.places, drops=((0, 2),)),
            Plan(3, 2, 1, ((-WHO, None), *self.places[1:]), drops=((0, 2),)),
        ]
        for other in others:
            self.assertIs(self.plan == other, False)
            self.assertIs(self.plan != other, True)
        self.assertEqual(Plan(2, 1, 1, ONE), Plan(2, 1, 1, ONE, drops=((),)))
        for other in (WHO, Key()):
            self.assertIs(self.plan == other, False)
            self.assertIs(self.plan != other, True)

    def test_refused_calls_change_nothing(self):
        before = (self.plan.base, self.plan.fields, self.plan.cells, self.plan.places, self.plan.drops)
        with self.assertRaises(BadKey):
            self.plan.ruled(0, "none")
        self.assertEqual((self.plan.base, self.plan.fields, self.plan.cells, self.plan.places, self.plan.drops), before)

    def test_how_they_are_defined(self):
        for name in ("usable", "situations", "ruled", "__len__", "__getitem__", "__iter__", "__eq__"):
            self.assertIn(name, vars(Plan))
        self.assertEqual(Plan.__module__, "shortkeys.plans")


if __name__ == "__main__":
    unittest.main()
