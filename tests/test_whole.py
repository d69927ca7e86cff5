"""What the document promises of the whole program, over all that its interface lists."""

import importlib
import inspect
import itertools
import unittest

from odd import Liar, Thrower

from shortkeys import errors
from shortkeys.alike import Parted, Same, are_alike, compare, parting_length
from shortkeys.cheapest import Cheapest, Never, cheapest, least_price
from shortkeys.houses import House
from shortkeys.judging import Mixed, Sound, is_sound, judge, mixes, soonest
from shortkeys.keeping import after, false_deeds, first_stock, runs, stock_after, told, traced
from shortkeys.keys import Key
from shortkeys.mending import Hopeless, Mended, least_cost, mend, plan_after
from shortkeys.plans import Plan
from shortkeys.recipes import Recipe
from shortkeys.texts import history_text, plan_text, read_history, read_plan, read_recipe, recipe_text
from shortkeys.values import Cores, Decided, Split, core_keys, cores, decide, does_decide, free_names, reads, value

WHO, PAGE, DAY, FIRST = Recipe.field(0), Recipe.field(1), Recipe.cell(0), Recipe.place(0)
PLAN = Plan(2, 2, 1, ((PAGE * DAY, Key.of("f1")), (WHO.then(FIRST, PAGE), "reads")), drops=((0,),))
OTHER = PLAN.ruled(1, "shown")
DEEDS = [("ask", 1, (1, 1)), ("set", 0, 1), ("ask", 1, (1, 1))]
STOCK = ((0,), ((), ()))
PRICES = {"f0": 1, "f1": 1, "c0": 3, "p0": 2}
OFFERS = (("rule", 1, "reads", 2), ("mark", 1, "p0", 1), ("drop", 0, 1, 2))
HELPLESS = (("rule", 1, "shown", 2), ("mark", 1, "p0", 1))
SMALL, LESS, MUCH = [Plan(2, 1, 0, ((WHO + 0, rule),)) for rule in (Key.of("f0"), None, Key())]

# Each function of the interface, by its file, with the names of its arguments.
FUNCTIONS = {
    "values": {"value": "plan place situation", "reads": "plan place situation", "decide": "plan place key",
               "does_decide": "plan place key", "cores": "plan place", "core_keys": "plan place", "free_names": "plan place"},
    "keeping": {"first_stock": "plan", "after": "plan stock deed", "stock_after": "plan history", "told": "plan history",
                "traced": "plan history", "false_deeds": "plan history", "runs": "plan history"},
    "judging": {"judge": "plan", "is_sound": "plan", "soonest": "plan", "mixes": "plan place"},
    "cheapest": {"cheapest": "plan place prices", "least_price": "plan place prices"},
    "mending": {"plan_after": "plan offers choice", "mend": "plan offers", "least_cost": "plan offers"},
    "alike": {"compare": "one other", "are_alike": "one other", "parting_length": "one other"},
    "texts": {"recipe_text": "recipe", "plan_text": "plan", "history_text": "plan history", "read_recipe": "text",
              "read_plan": "text", "read_history": "plan text"},
}
# Each class, with the names of the arguments of its methods; a property has none.
CLASSES = {
    "recipes": {"Recipe": {"__init__": "form", "field": "k", "cell": "k", "place": "k", "number": "n", "names": None,
                           "same": "other", "then": "one other", "__add__": "other", "__sub__": "other", "__mul__": "other",
                           "__neg__": "", "__contains__": "x", "__len__": "", "__call__": "base numbers", "__eq__": "other"}},
    "keys": {"Key": {"__init__": "names", "of": "names", "names": None, "__or__": "other", "__and__": "other",
                     "__sub__": "other", "__xor__": "other", "__le__": "other", "__lt__": "other", "__contains__": "x",
                     "__len__": "", "__eq__": "other"}},
    "plans": {"Plan": {"__init__": "base fields cells places drops", "base": None, "fields": None, "cells": None,
                       "places": None, "drops": None, "__len__": "", "__getitem__": "at", "usable": "place",
                       "situations": "", "ruled": "place rule", "__eq__": "other", "__iter__": ""}},
    "values": {"Decided": {"__init__": "table", "shows": "plan place key", "__eq__": "other"},
               "Split": {"__init__": "one other", "shows": "plan place key", "__eq__": "other"},
               "Cores": {"__init__": "rows splits", "shows": "plan place", "__eq__": "other"}},
    "judging": {"Sound": {"__init__": "tables", "shows": "plan", "__eq__": "other"},
                "Mixed": {"__init__": "history", "shows": "plan", "__eq__": "other"}},
    "cheapest": {"Cheapest": {"__init__": "key table splits", "shows": "plan place prices", "__eq__": "other"},
                 "Never": {"__init__": "one other", "shows": "plan place prices", "__eq__": "other"}},
    "mending": {"Mended": {"__init__": "choice sound against", "shows": "plan offers", "__eq__": "other"},
                "Hopeless": {"__init__": "against", "shows": "plan offers", "__eq__": "other"}},
    "alike": {"Same": {"__init__": "couples", "shows": "one other", "__eq__": "other"},
              "Parted": {"__init__": "history", "shows": "one other", "__eq__": "other"}},
    "houses": {"House": {"__init__": "plan", "plan": None, "__getitem__": "at", "__setitem__": "at worth",
                         "__call__": "place fields", "do": "deeds", "__len__": "", "stock": "", "journal": "", "bill": "",
                         "undo": "", "branch": "", "attempt": "work", "__iter__": ""}},
}


def answers():
    """One object of each class with a method `shows`, and what it is asked to show."""
    return [
        (decide(PLAN, 1, Key.of("f0", "f1", "p0")), (PLAN, 1, Key.of("f0", "f1", "p0"))),
        (decide(PLAN, 1, Key.of("f0")), (PLAN, 1, Key.of("f0"))), (cores(PLAN, 1), (PLAN, 1)), (judge(PLAN), (PLAN,)),
        (judge(OTHER), (OTHER,)), (cheapest(PLAN, 1, PRICES), (PLAN, 1, PRICES)),
        (cheapest(PLAN, 1, {"f0": 1}), (PLAN, 1, {"f0": 1})), (mend(OTHER, OFFERS), (OTHER, OFFERS)),
        (mend(OTHER, HELPLESS), (OTHER, HELPLESS)), (compare(SMALL, LESS), (SMALL, LESS)),
        (compare(SMALL, MUCH), (SMALL, MUCH)),
    ]


def calls():
    """Calls of all that returns anything but a number, a string, a boolean or None, each to be done again and again."""
    house = House(PLAN)
    house.do(*DEEDS)
    return [
        lambda: [found for found, given in answers()], lambda: reads(PLAN, 1, ((1, 1), (1,))),
        lambda: core_keys(PLAN, 1), lambda: mixes(OTHER, 1),
        lambda: told(PLAN, DEEDS), lambda: traced(PLAN, DEEDS), lambda: false_deeds(OTHER, DEEDS), lambda: runs(PLAN, DEEDS),
        lambda: PLAN.situations(), lambda: house.journal(), lambda: house.bill(), lambda: house.do(), lambda: house.stock(),
        lambda: house.branch().do(*DEEDS), lambda: house.attempt(lambda inner: [inner.do(*DEEDS), inner.bill()]),
        lambda: read_history(PLAN, history_text(PLAN, DEEDS)), lambda: first_stock(PLAN), lambda: stock_after(PLAN, DEEDS),
        lambda: [after(PLAN, STOCK, DEEDS[0])], lambda: [PLAN.places, PLAN.drops, PLAN[1], PLAN.usable(1), WHO.names],
    ]


def parts(found):
    """The items or the values of the attributes of what was returned, if these can be changed by whoever got it."""
    if isinstance(found, (list, tuple)):
        return list(found)
    if isinstance(found, dict):
        return list(found.values())
    return list(vars(found).values()) if hasattr(found, "shows") else []


def all_parts(found):
    return [found, *[inner for part in parts(found) for inner in all_parts(part)]]


def can_change(part):
    return isinstance(part, (list, dict)) or hasattr(part, "shows")


def spoil(part):
    """Change whatever was returned as much as can be."""
    if isinstance(part, list):
        part[:] = [None]
    elif isinstance(part, dict):
        part.clear()
    elif hasattr(part, "shows"):
        for name in vars(part):
            setattr(part, name, None)


class InterfaceTest(unittest.TestCase):
    def names(self, given):
        return [name for name in inspect.signature(given).parameters]

    def test_functions(self):
        for file, found in FUNCTIONS.items():
            module = importlib.import_module(f"shortkeys.{file}")
            for name, given in found.items():
                function = getattr(module, name)
                self.assertEqual((function.__module__, self.names(function)), (f"shortkeys.{file}", given.split()), name)

    def test_classes(self):
        for file, found in CLASSES.items():
            module = importlib.import_module(f"shortkeys.{file}")
            for name, methods in found.items():
                self.assertEqual(getattr(module, name).__module__, f"shortkeys.{file}")
                for method, given in methods.items():
                    held = vars(getattr(module, name))[method]
                    if given is None:
                        self.assertIsInstance(held, property)
                    elif isinstance(held, (classmethod, staticmethod)):
                        self.assertEqual(self.names(getattr(getattr(module, name), method)), given.split(), (name, method))
                    else:
                        self.assertEqual(self.names(held)[1:], given.split(), (name, method))

    def test_all_errors_are_of_the_package(self):
        for error in vars(errors).values():
            self.assertTrue(not inspect.isclass(error) or issubclass(error, errors.KeepError))


class ResultsTest(unittest.TestCase):
    def test_all_answers_are_shown(self):
        kinds = [Decided, Split, Cores, Sound, Mixed, Cheapest, Never, Mended, Hopeless, Same, Parted]
        self.assertEqual([type(found) for found, given in answers()], kinds)
        for found, given in answers():
            self.assertIs(found.shows(*given), True)

    def test_what_was_returned_can_be_changed_without_any_effect(self):
        for call in calls():
            wanted = repr_of(call())
            for part in all_parts(call()):
                spoil(part)
            self.assertEqual(repr_of(call()), wanted)

    def test_nothing_that_can_be_changed_is_returned_twice(self):
        for call in calls():
            first, second = all_parts(call()), all_parts(call())
            for one, other in itertools.product(first, second):
                if can_change(one):
                    self.assertIsNot(one, other)
            marks = [id(part) for part in first if can_change(part)]
            self.assertEqual(len(marks), len(set(marks)))

    def test_what_was_given_can_be_changed_without_any_effect(self):
        for found, given in answers():
            held = list(vars(found).values())
            copy = type(found)(*held)
            wanted = repr_of(copy)
            self.assertEqual(repr_of(found), wanted)
            for part in [inner for value in held for inner in all_parts(value)]:
                spoil(part)
            self.assertEqual(repr_of(copy), wanted)
            self.assertIs(copy.shows(*given), True)

    def test_what_shows_is_asked_changes_nothing(self):
        for found, given in answers():
            before = (repr_of(found), repr_of(given))
            found.shows(*given)
            self.assertEqual((repr_of(found), repr_of(given)), before)


class EqualityTest(unittest.TestCase):
    def test_objects_of_different_classes_are_not_equal(self):
        empty = [Decided({}), Split([], []), Cores([], []), Sound([]), Mixed([]), Cheapest([], {}, []), Never([], []),
                 Mended((), [], {}), Hopeless({}), Same([]), Parted([]), Key(), Recipe(("number", 0)), PLAN, House(PLAN),
                 errors.KeepError(), errors.BadPlan(None)]
        for rows in (empty, [found for found, given in answers()]):
            for (at, one), (to, other) in itertools.product(enumerate(rows), repeat=2):
                self.assertIs(one == other, at == to)
                self.assertIs(one != other, at != to)

    def test_answers_with_the_same_attributes_are_equal(self):
        for (one, given), (other, same) in zip(answers(), answers()):
            self.assertIsNot(one, other)
            self.assertIs(one == other, True)
            self.assertIs(one != other, False)
            name = list(vars(one))[0]
            setattr(other, name, None)
            self.assertIs(one == other, False)
            self.assertIs(one != other, True)


class ErrorsTest(unittest.TestCase):
    def test_several_faults_at_once(self):
        bad = [None, Liar(), Thrower(), True, "x"]
        for one, two in itertools.product(bad, bad):
            self.first("BadPlan", one, two, [value, reads, decide, does_decide, after, cheapest, least_price, plan_after], two)
            self.first("BadPlan", one, two, [cores, core_keys, free_names, mixes, stock_after, told, traced, false_deeds, runs,
                                             mend, least_cost, history_text, read_history, compare, are_alike, parting_length])
            self.first("BadPlan", one, None, [judge, is_sound, soonest, first_stock, plan_text, House], only=True)
            self.first("BadPlace", PLAN, one, [value, reads, decide, does_decide, cheapest, least_price], two)
            self.first("BadStock", PLAN, one, [after], two)
            self.first("BadDeed", PLAN, STOCK, [after], one)
            self.first("BadOffers", PLAN, one, [plan_after], two)
            self.first("BadChoice", PLAN, OFFERS, [plan_after], one)
            self.first("BadPlan", PLAN, one, [compare, are_alike, parting_length])
        self.first("BadPair", PLAN, SMALL, [compare, are_alike, parting_length])

    def first(self, error, one, two, called, *more, only=False):
        for call in called:
            with self.assertRaises(getattr(errors, error)) as caught:
                call(*((one,) if only else (one, two, *more)))
            if error == "BadPlan":
                self.assertIsNone(caught.exception.part)

    def test_texts(self):
        for call, row in ((read_plan, 0), (read_recipe, None)):
            with self.assertRaises(errors.BadText) as caught:
                call(None)
            self.assertEqual(caught.exception.row, row)
        for call, error in ((recipe_text, errors.BadRecipe), (plan_text, errors.BadPlan)):
            with self.assertRaises(error):
                call(None)


def repr_of(found):
    """All that was returned, down to its last parts."""
    if isinstance(found, (list, tuple)):
        return [type(found).__name__, *map(repr_of, found)]
    if isinstance(found, dict):
        return [type(found).__name__, *[(key, repr_of(found[key])) for key in found]]
    if isinstance(found, Key):
        return found.names
    if isinstance(found, (Recipe, Plan)):
        return recipe_text(found) if isinstance(found, Recipe) else plan_text(found)
    return [type(found).__name__, *map(repr_of, vars(found).values())] if hasattr(found, "shows") else found


if __name__ == "__main__":
    unittest.main()
