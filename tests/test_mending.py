import itertools
import random
import unittest

import slow
from odd import NO_INTEGERS, NO_TUPLES, ODD, Liar, Thrower

from shortkeys.errors import BadChoice, BadOffers, BadPlan
from shortkeys.judging import Mixed, Sound, judge
from shortkeys.keys import Key
from shortkeys.mending import Hopeless, Mended, least_cost, mend, plan_after
from shortkeys.plans import Plan
from shortkeys.recipes import Recipe

WHO, PAGE = Recipe.field(0), Recipe.field(1)
DAY, HOUR = Recipe.cell(0), Recipe.cell(1)
FIRST, SECOND = Recipe.place(0), Recipe.place(1)
PLAN = Plan(2, 1, 1, ((WHO + DAY, Key.of("f0")),))
OFFERS = (("mark", 0, "c0", 3), ("drop", 0, 0, 2), ("rule", 0, None, 4), ("rule", 0, "reads", 2))
NONE_HELPS = (("rule", 0, Key.of("f0"), 1), ("mark", 0, "f0", 2), ("rule", 0, Key(), 1))
# Two places, each with a fault of its own, and a cell that must drop both, or be in both of their keys.
WIDE = Plan(2, 2, 2, ((PAGE + DAY, Key.of("f1")), (WHO + FIRST * HOUR, Key.of("f0", "p0"))))
WIDE_OFFERS = (("mark", 1, "c1", 2), ("drop", 0, 0, 3), ("rule", 1, "shown", 1), ("mark", 0, "c0", 2), ("drop", 1, 1, 1))
BAD = [("ask", 0, (1,)), ("set", 0, 1), ("ask", 0, (1,))]
NO_PLANS = [None, 0, "plan", (2, 1, 1), Plan, WHO, Key(), *ODD]
NO_OFFER = [
    None, 0, (), "rule", ("rule",), ("rule", 0, None), ("rule", 0, None, 1, 1), ["rule", 0, None, 1], ("rules", 0, None, 1),
    ("Rule", 0, None, 1), ("", 0, None, 1), (None, 0, None, 1), (0, 0, None, 1), (("rule",), 0, None, 1),
    (b"rule", 0, None, 1), (Liar(), 0, None, 1), (Thrower(), 0, None, 1), ("rule", 1, None, 1), ("rule", -1, None, 1),
    ("rule", 0, Key.of("c1"), 1), ("rule", 0, Key.of("f1"), 1), ("rule", 0, Key.of("p0"), 1), ("rule", 0, "none", 1),
    ("rule", 0, "f0", 1), ("rule", 0, ("f0",), 1), ("rule", 0, WHO, 1), ("rule", 0, 0, 1), ("mark", 1, "f0", 1),
    ("mark", 0, "c1", 1), ("mark", 0, "f1", 1), ("mark", 0, "p0", 1), ("mark", 0, Key.of("f0"), 1), ("mark", 0, None, 1),
    ("mark", 0, "reads", 1), ("mark", 0, ("f0",), 1), ("mark", 0, ["f0"], 1), ("mark", -1, "f0", 1), ("drop", 1, 0, 1),
    ("drop", 0, 1, 1), ("drop", -1, 0, 1), ("drop", 0, -1, 1), ("drop", "c0", 0, 1), ("drop", 0, "p0", 1),
    ("drop", 0, (0,), 1), ("marks", 0, "f0", 1), ("Mark", 0, "f0", 1), ("", 0, "f0", 1), ("drops", 0, 0, 1), *ODD,
    *[("rule", odd, None, 1) for odd in NO_INTEGERS], *[("mark", odd, "f0", 1) for odd in NO_INTEGERS],
    *[("drop", odd, 0, 1) for odd in NO_INTEGERS], *[("drop", 0, odd, 1) for odd in NO_INTEGERS],
    *[("rule", 0, odd, 1) for odd in ODD], *[("mark", 0, odd, 1) for odd in ODD],
    *[(word, 0, given, odd) for word, given in (("rule", None), ("mark", "f0"), ("drop", 0))
      for odd in (0, -1, 10, 10 ** 30, *NO_INTEGERS)],
]
GOOD_OFFER = ("rule", 0, None, 9)
NO_OFFERS = [
    None, 0, (), "offers", [], [GOOD_OFFER], {0: GOOD_OFFER}, GOOD_OFFER, (GOOD_OFFER,) * 6, (GOOD_OFFER,) * 100,
    *NO_TUPLES, *[(odd,) for odd in NO_OFFER], *[(GOOD_OFFER, odd) for odd in NO_OFFER],
    *[(odd, GOOD_OFFER) for odd in NO_OFFER[:20]], *[(GOOD_OFFER,) * 4 + (odd,) for odd in NO_OFFER[:20]],
]
NO_CHOICES = [
    None, 0, [], [0], "0", {0: 0}, (4,), (0, 4), (-1,), (-1, 0), (0, 0), (1, 0), (0, 1, 1), (3, 2, 1, 0), (True,), (False,),
    (0, True), (False, 1), ("0",), (None,), ((0,),), (0, None), (10 ** 30,), *NO_TUPLES, *[(odd,) for odd in NO_INTEGERS],
]


def good(plan):
    return all(slow.mixes(plan, place) == [] for place in range(len(plan)))


def some_plans():
    """Plans that are mostly not sound, some of them with empty keys for two places, so that more than one has to be mended."""
    found = [slow.any_plan(seed, shape) for seed in range(30) for shape in slow.SHAPES[:8]]
    kinds = [good(plan) for plan in found]
    empty = [slow.any_plan(seed, shape).ruled(0, Key()).ruled(1, Key()) for seed in range(12) for shape in slow.SHAPES[3:5]]
    return [plan for plan, kind in zip(found, kinds) if not kind][:30] + [
        plan for plan, kind in zip(found, kinds) if kind][:8] + empty + [slow.any_plan(2, shape) for shape in slow.SHAPES[8:]]


PLANS = some_plans()
MANY = [(plan, slow.any_offers(f"{at} {many}", plan, many)) for at, plan in enumerate(PLANS) for many in (1, 3, 5)]


class PlanAfterTest(unittest.TestCase):
    def rule(self, own, offers, choice):
        """The rule after a choice of the first place that has this rule of its own."""
        return plan_after(PLAN.ruled(0, own), offers, choice)[0][1]

    def test_the_empty_choice(self):
        for plan, offers in MANY:
            self.assertEqual(plan_after(plan, offers, ()), plan)
        self.assertEqual(plan_after(PLAN, OFFERS, ()), PLAN)

    def test_the_last_rule_counts(self):
        offers = (("rule", 0, "reads", 1), ("rule", 0, Key(), 1), ("rule", 0, None, 9), ("rule", 0, "shown", 1))
        for own in (None, "reads", Key.of("f0", "c0")):
            for choice, rule in (((0,), "reads"), ((0, 1), Key()), ((0, 1, 2), None), ((0, 2), None), ((1, 3), "shown"),
                                 ((0, 1, 2, 3), "shown"), ((), own)):
                self.assertEqual(self.rule(own, offers, choice), rule)

    def test_marks_for_a_key(self):
        offers = (("mark", 0, "c0", 1), ("mark", 0, "f0", 1), ("mark", 0, "c0", 2))
        for choice, names in (((), ()), ((0,), ("c0",)), ((1,), ("f0",)), ((0, 2), ("c0",)), ((0, 1, 2), ("f0", "c0"))):
            self.assertEqual(self.rule(Key(), offers, choice), Key(names))
            self.assertEqual(self.rule(Key.of("c0"), offers, choice), Key(["c0", *names]))

    def test_marks_for_a_word_or_none(self):
        offers = (("mark", 0, "c0", 1), ("mark", 0, "f0", 1))
        for own in (None, "reads", "shown"):
            for choice in ((), (0,), (1,), (0, 1)):
                self.assertEqual(self.rule(own, offers, choice), own)
                self.assertEqual(plan_after(PLAN.ruled(0, own), offers, choice), PLAN.ruled(0, own))

    def test_marks_before_and_behind_rules(self):
        offers = (("mark", 0, "c0", 1), ("rule", 0, Key.of("f0"), 1), ("mark", 0, "f0", 1), ("rule", 0, "reads", 1),
                  ("rule", 0, Key(), 1))
        for own in (None, "shown", Key()):
            for choice, rule in (((0, 1), Key.of("c0", "f0")), ((1, 2), Key.of("f0")), ((0, 3), "reads"),
                                 ((0, 1, 2, 3), "reads"), ((0, 3, 4), Key.of("c0")), ((0, 1, 2, 3, 4), Key.of("c0", "f0")),
                                 ((2, 4), Key.of("f0")), ((4,), Key())):
                self.assertEqual(self.rule(own, offers, choice), rule)

    def test_drops_ascend_and_are_there_once(self):
        plan = Plan(2, 1, 2, ((WHO, None), (WHO, None), (WHO, None)), drops=((1,), ()))
        offers = (("drop", 0, 2, 1), ("drop", 0, 0, 1), ("drop", 0, 1, 1), ("drop", 1, 2, 1), ("drop", 0, 2, 1))
        for choice, drops in (((), ((1,), ())), ((0,), ((1, 2), ())), ((0, 1), ((0, 1, 2), ())), ((2,), ((1,), ())),
                              ((3,), ((1,), (2,))), ((0, 1, 2, 3, 4), ((0, 1, 2), (2,))), ((0, 4), ((1, 2), ()))):
            self.assertEqual(plan_after(plan, offers, choice).drops, drops)
            self.assertEqual(plan_after(plan, offers, choice).places, plan.places)

    def test_offers_for_one_place_leave_the_others(self):
        for at in range(3):
            plan = Plan(2, 1, 1, ((WHO, Key()), (WHO, Key()), (WHO, Key())))
            changed = plan_after(plan, (("rule", at, "reads", 1), ("mark", 1, "c0", 1)), (0, 1))
            rules = [Key(), Key.of("c0"), Key()]
            rules[at] = "reads"
            self.assertEqual([rule for recipe, rule in changed.places], rules)

    def test_against_a_slow_way(self):
        for plan, offers in MANY:
            before = (plan.places, plan.drops)
            for choice in slow.choices(offers):
                self.assertEqual(plan_after(plan, offers, choice), slow.plan_after(plan, offers, choice))
            self.assertEqual((plan.places, plan.drops), before)

    def test_names_of_earlier_places(self):
        plan = Plan(2, 1, 0, ((WHO, None), (FIRST + 0, Key()), (FIRST + SECOND, Key())))
        offers = (("mark", 1, "p0", 1), ("mark", 2, "p1", 1), ("rule", 2, Key.of("p0"), 1))
        self.assertEqual([rule for recipe, rule in plan_after(plan, offers, (0, 1, 2)).places],
                         [None, Key.of("p0"), Key.of("p0", "p1")])
        for offer in (("mark", 0, "p0", 1), ("mark", 1, "p1", 1), ("mark", 2, "c0", 1), ("rule", 1, Key.of("p1"), 1)):
            with self.assertRaises(BadOffers):
                plan_after(plan, (offer,), ())

    def test_wrong_choices(self):
        for choice in NO_CHOICES:
            with self.assertRaises(BadChoice):
                plan_after(PLAN, OFFERS, choice)
        for choice in ((1,), (0, 1)):
            with self.assertRaises(BadChoice):
                plan_after(PLAN, OFFERS[:1], choice)

    def test_wrong_offers(self):
        for offers in NO_OFFERS:
            for choice in ((), (0,), None, (9,)):
                with self.assertRaises(BadOffers):
                    plan_after(PLAN, offers, choice)

    def test_drops_of_a_plan_without_cells(self):
        plan = Plan(2, 1, 0, ((WHO, None),))
        with self.assertRaises(BadOffers):
            plan_after(plan, (("drop", 0, 0, 1),), ())

    def test_wrong_plans(self):
        for plan in NO_PLANS:
            for offers, choice in ((OFFERS, ()), (None, None), (Liar(), Thrower())):
                with self.assertRaises(BadPlan) as caught:
                    plan_after(plan, offers, choice)
                self.assertIsNone(caught.exception.part)


class MendTest(unittest.TestCase):
    def test_by_hand(self):
        found = mend(PLAN, OFFERS)
        self.assertIs(type(found), Mended)
        self.assertEqual((found.choice, list(found.against), least_cost(PLAN, OFFERS)), ((1,), [()], 2))
        self.assertIs(found.sound.shows(Plan(2, 1, 1, PLAN.places, drops=((0,),))), True)
        self.assertIs(found.against[()].shows(PLAN), True)

    def test_choices_with_one_price_are_ordered_as_tuples(self):
        # Of (1,) and (3,), both good, the first one comes first; so does (0, 1) before (2,), although it is longer.
        self.assertEqual(mend(PLAN, OFFERS[::-1]).choice, (0,))
        offers = (("rule", 0, "shown", 1), ("mark", 0, "f0", 1), ("drop", 0, 0, 2), ("rule", 0, None, 2))
        self.assertEqual(mend(PLAN, offers).choice, (0,))
        offers = (("rule", 0, Key(), 1), ("rule", 0, "reads", 1), ("rule", 0, None, 2))
        self.assertEqual(mend(PLAN, offers).choice, (1,))
        offers = (("rule", 0, Key(), 1), ("mark", 0, "f0", 1), ("mark", 0, "c0", 2), ("rule", 0, Key(), 2))
        self.assertEqual(mend(PLAN.ruled(0, Key()), offers).choice, (1, 2))

    def test_several_rules_for_one_place(self):
        offers = (("rule", 0, "reads", 1), ("rule", 0, Key(), 1), ("mark", 0, "f0", 1), ("mark", 0, "c0", 1))
        self.assertEqual(mend(PLAN, offers).choice, (0,))
        offers = (("rule", 0, Key.of("c0"), 3), ("rule", 0, Key.of("f0"), 1), ("mark", 0, "f0", 1))
        self.assertEqual(mend(PLAN, offers).choice, (0, 2))
        self.assertEqual(list(mend(PLAN, offers).against), [(), (1,), (2,), (1, 2), (0,)])

    def test_a_plan_that_is_sound_already(self):
        for rule in (None, "reads", Key.of("f0", "c0")):
            plan = PLAN.ruled(0, rule)
            for offers in (OFFERS, NONE_HELPS, (("rule", 0, Key(), 1),)):
                found = mend(plan, offers)
                self.assertEqual((found.choice, found.against, least_cost(plan, offers)), ((), {}, 0))
                self.assertIs(found.sound.shows(plan), True)

    def test_no_choice_is_good(self):
        found = mend(PLAN, NONE_HELPS)
        self.assertIs(type(found), Hopeless)
        self.assertIsNone(least_cost(PLAN, NONE_HELPS))
        self.assertEqual(list(found.against), [(), (0,), (2,), (0, 2), (1,), (0, 1), (1, 2), (0, 1, 2)])
        for choice in found.against:
            self.assertIs(found.against[choice].shows(plan_after(PLAN, NONE_HELPS, choice)), True)
        self.assertIs(found.shows(PLAN, NONE_HELPS), True)

    def test_one_offer(self):
        for offer, price in ((("mark", 0, "c0", 9), 9), (("mark", 0, "f0", 9), None), (("drop", 0, 0, 1), 1),
                             (("rule", 0, "shown", 3), 3), (("rule", 0, Key(), 3), None), (("rule", 0, None, 5), 5)):
            found = mend(PLAN, (offer,))
            self.assertEqual(least_cost(PLAN, (offer,)), price)
            self.assertEqual(list(found.against), [(), (0,)] if price is None else [()])
            self.assertIs(found.shows(PLAN, (offer,)), True)

    def test_five_offers(self):
        found = mend(WIDE, WIDE_OFFERS)
        self.assertEqual((found.choice, least_cost(WIDE, WIDE_OFFERS)), ((3, 4), 3))
        self.assertEqual(list(found.against), [row for row in slow.choices(WIDE_OFFERS) if slow.price(WIDE_OFFERS, row) < 3])
        self.assertIs(found.shows(WIDE, WIDE_OFFERS), True)
        hopeless = mend(PLAN, (("rule", 0, Key(), 9),) * 5)
        self.assertEqual((type(hopeless), len(hopeless.against)), (Hopeless, 32))
        self.assertEqual(list(hopeless.against), slow.choices((("rule", 0, Key(), 9),) * 5))

    def test_all_offers_are_needed(self):
        plan = Plan(2, 3, 2, ((WHO + PAGE + Recipe.field(2) + DAY + HOUR, Key()),))
        offers = tuple(("mark", 0, name, 9) for name in ("c1", "f2", "f0", "c0", "f1"))
        found = mend(plan, offers)
        self.assertEqual((found.choice, least_cost(plan, offers), len(found.against)), ((0, 1, 2, 3, 4), 45, 31))
        self.assertIs(found.shows(plan, offers), True)

    def test_against_a_slow_way(self):
        for plan, offers in MANY:
            found = mend(plan, offers)
            ranked = slow.choices(offers)
            goods = [choice for choice in ranked if good(slow.plan_after(plan, offers, choice))]
            self.assertIs(found.shows(plan, offers), True)
            if goods:
                price = slow.price(offers, goods[0])
                self.assertIs(type(found), Mended)
                self.assertEqual((found.choice, least_cost(plan, offers)), (goods[0], price))
                ranked = [choice for choice in ranked if slow.price(offers, choice) < price]
                self.assertIs(found.sound.shows(slow.plan_after(plan, offers, goods[0])), True)
            else:
                self.assertIs(type(found), Hopeless)
                self.assertIsNone(least_cost(plan, offers))
            self.assertEqual(list(found.against), ranked)
            for choice, mixed in found.against.items():
                self.assertIs(type(mixed), Mixed)
                self.assertIs(mixed.shows(slow.plan_after(plan, offers, choice)), True)

    def test_all_come_about(self):
        found = [mend(plan, offers) for plan, offers in MANY]
        self.assertGreater(len([row for row in found if isinstance(row, Hopeless)]), 20)
        self.assertGreater(len([row for row in found if isinstance(row, Mended) and len(row.choice) == 1]), 10)
        self.assertGreater(len([row for row in found if isinstance(row, Mended) and len(row.choice) > 1]), 5)

    def test_wrong_arguments(self):
        for call in (mend, least_cost, Hopeless({}).shows, Mended((), Sound([]), {}).shows, Mended(None, None, {}).shows):
            for plan in NO_PLANS:
                for offers in (OFFERS, None, (), Liar()):
                    with self.assertRaises(BadPlan) as caught:
                        call(plan, offers)
                    self.assertIsNone(caught.exception.part)
            for offers in NO_OFFERS:
                with self.assertRaises(BadOffers):
                    call(PLAN, offers)

    def test_results_are_new(self):
        found = mend(PLAN, OFFERS)
        found.sound.tables[0].clear()
        found.sound.tables.clear()
        found.against[()].history.clear()
        found.against.clear()
        self.assertIs(mend(PLAN, OFFERS).shows(PLAN, OFFERS), True)
        self.assertIsNot(mend(PLAN, OFFERS), mend(PLAN, OFFERS))
        self.assertIsNot(mend(PLAN, OFFERS).sound, mend(PLAN, OFFERS).sound)
        hopeless = mend(PLAN, NONE_HELPS)
        hopeless.against[()].history.clear()
        hopeless.against.clear()
        self.assertIs(mend(PLAN, NONE_HELPS).shows(PLAN, NONE_HELPS), True)


class MendedShowsTest(unittest.TestCase):
    def setUp(self):
        found = mend(WIDE, WIDE_OFFERS)
        self.choice, self.sound, self.against = found.choice, found.sound, found.against

    def shows(self, choice=None, sound=None, against=None, plan=WIDE, offers=WIDE_OFFERS):
        made = Mended((), Sound([]), {})
        made.choice = self.choice if choice is None else choice
        made.sound = self.sound if sound is None else sound
        made.against = self.against if against is None else against
        return made.shows(plan, offers)

    def test_the_dict_in_any_order(self):
        self.assertIs(self.shows(), True)
        for seed in range(20):
            rows = list(self.against.items())
            random.Random(seed).shuffle(rows)
            self.assertIs(self.shows(against=dict(rows)), True)

    def test_other_choices(self):
        for choice in slow.choices(WIDE_OFFERS):
            self.assertIs(self.shows(choice=choice), choice == self.choice)
            # Also with what would fit, only a choice with the least price is shown.
            sound = judge(plan_after(WIDE, WIDE_OFFERS, choice))
            cheaper = [row for row in slow.choices(WIDE_OFFERS) if slow.price(WIDE_OFFERS, row) < slow.price(WIDE_OFFERS, choice)]
            against = {row: judge(plan_after(WIDE, WIDE_OFFERS, row)) for row in cheaper}
            best = isinstance(sound, Sound) and slow.price(WIDE_OFFERS, choice) == 3
            self.assertIs(self.shows(choice, sound, against), best)

    def test_any_choice_with_the_least_price(self):
        for choice in ((1,), (3,)):
            sound = judge(plan_after(PLAN, OFFERS, choice))
            self.assertIs(Mended(choice, sound, {(): Mixed(BAD)}).shows(PLAN, OFFERS), True)
            self.assertIs(Mended(choice, sound, {}).shows(PLAN, OFFERS), False)
        self.assertIs(Mended((1,), judge(plan_after(PLAN, OFFERS, (3,))), {(): Mixed(BAD)}).shows(PLAN, OFFERS), False)
        # One that is good, but not the cheapest: for all with a lesser price, there can be no Mixed.
        sound = judge(plan_after(PLAN, OFFERS, (0,)))
        for against in ({(): Mixed(BAD)}, {(): Mixed(BAD), (1,): Mixed(BAD), (3,): Mixed(BAD)}):
            self.assertIs(Mended((0,), sound, against).shows(PLAN, OFFERS), False)

    def test_what_is_no_choice(self):
        for choice in [*NO_CHOICES, [3, 4], (4, 3), (3, 4, 4), (3, 4, 5), (3, 4, -1), (3, True), ("3", "4"), *ODD]:
            if choice is not None:
                self.assertIs(self.shows(choice=choice), False)
        self.assertIs(Mended(None, self.sound, self.against).shows(WIDE, WIDE_OFFERS), False)
        sound = judge(plan_after(PLAN, OFFERS, (1,)))
        self.assertIs(Mended((1,), sound, {(): Mixed(BAD)}).shows(PLAN, OFFERS), True)
        self.assertIs(Mended((True,), sound, {(): Mixed(BAD)}).shows(PLAN, OFFERS), False)

    def test_sounds_changed_a_little(self):
        tables = self.sound.tables
        for at, table in enumerate(tables):
            for pair in table:
                for changed in ({**table, pair: 1 - table[pair]}, {p: n for p, n in table.items() if p != pair}):
                    self.assertIs(self.shows(sound=Sound([*tables[:at], changed, *tables[at + 1:]])), False)
            self.assertIs(self.shows(sound=Sound([*tables[:at], None, *tables[at + 1:]])), False)
        self.assertIs(self.shows(sound=Sound([*tables, None])), False)
        self.assertIs(self.shows(sound=Sound([dict(list(table.items())[::-1]) for table in tables])), True)

    def test_sounds_of_other_plans(self):
        for choice in slow.choices(WIDE_OFFERS):
            found = judge(plan_after(WIDE, WIDE_OFFERS, choice))
            self.assertIs(self.shows(sound=found), choice == self.choice)
        for other in [Mixed([]), self.against[()], Hopeless({}), self.sound.tables, 0, (), "sound", *ODD]:
            self.assertIs(self.shows(sound=other), False)

    def test_dicts_changed_a_little(self):
        for choice, mixed in self.against.items():
            less = {row: found for row, found in self.against.items() if row != choice}
            self.assertIs(self.shows(against=less), False)
            for other in (Mixed(mixed.history[:-1]), Mixed([]), Mixed([*mixed.history, ("set", 0, 0)]), self.sound,
                          mixed.history, None, True, Hopeless({})):
                self.assertIs(self.shows(against={**less, choice: other}), False)
            if choice:
                for wrong in (tuple(map(bool, choice)), choice[::-1] + (0,), tuple(map(str, choice)), choice[0], None):
                    self.assertIs(self.shows(against={**less, wrong: mixed}), False)
        for choice in slow.choices(WIDE_OFFERS):
            if choice not in self.against:
                mixed = judge(plan_after(WIDE, WIDE_OFFERS, choice))
                self.assertIs(self.shows(against={**self.against, choice: mixed}), False)
                # As many choices, but one of them has no lesser price.
                less = {row: found for row, found in self.against.items() if row != (0,)}
                self.assertIs(self.shows(against={**less, choice: mixed}), False)
        for other in [list(self.against.items()), list(self.against), 0, (), "against", *NO_TUPLES[1:]]:
            self.assertIs(self.shows(against=other), False)

    def test_booleans_in_choices_that_are_needed(self):
        offers = (("mark", 0, "f0", 1), ("mark", 0, "f0", 1), ("drop", 0, 0, 2))
        found = mend(PLAN, offers)
        self.assertEqual(list(found.against), [(), (0,), (1,)])
        for row in ((0,), (1,)):
            mixed = found.against.pop(row)
            found.against[tuple(map(bool, row))] = mixed
            self.assertIs(found.shows(PLAN, offers), False)
            del found.against[row]
            found.against[row] = mixed
            self.assertIs(found.shows(PLAN, offers), True)

    def test_mixeds_of_other_plans(self):
        # Each has to be false in just its plan: not in the one before the choice, nor in that of another choice.
        offers = (("rule", 0, Key(), 1), ("rule", 0, "reads", 2))
        short = Mixed([("ask", 0, (1,)), ("ask", 0, (0,))])
        sound = judge(plan_after(PLAN, offers, (1,)))
        self.assertIs(Mended((1,), sound, {(): Mixed(BAD), (0,): short}).shows(PLAN, offers), True)
        self.assertIs(Mended((1,), sound, {(): short, (0,): short}).shows(PLAN, offers), False)
        self.assertIs(Mended((1,), sound, {(): Mixed(BAD), (0,): Mixed(BAD)}).shows(PLAN, offers), True)

    def test_for_other_plans_and_offers(self):
        self.assertIs(self.shows(plan=plan_after(WIDE, WIDE_OFFERS, (0,))), False)
        self.assertIs(self.shows(offers=WIDE_OFFERS[:4]), False)
        self.assertIs(self.shows(offers=WIDE_OFFERS[:1] + (("drop", 0, 0, 9),) + WIDE_OFFERS[2:]), True)
        self.assertIs(self.shows(offers=WIDE_OFFERS[:2] + (("rule", 1, "shown", 3),) + WIDE_OFFERS[3:]), False)
        self.assertIs(self.shows(offers=WIDE_OFFERS[:4] + (("drop", 1, 0, 1),)), False)

    def test_changed_by_hand(self):
        found = mend(WIDE, WIDE_OFFERS)
        found.against[()].history.append(("set", 0, 0))
        self.assertIs(found.shows(WIDE, WIDE_OFFERS), False)
        found.against[()].history.pop()
        self.assertIs(found.shows(WIDE, WIDE_OFFERS), True)
        found.sound.tables[0].clear()
        self.assertIs(found.shows(WIDE, WIDE_OFFERS), False)

    def test_the_dict_and_what_is_in_it_are_copied(self):
        sound, mixed = judge(plan_after(PLAN, OFFERS, (1,))), Mixed(list(BAD))
        given = {(): mixed}
        found = Mended((1,), sound, given)
        hopeless = Hopeless(given)
        given.clear()
        mixed.history.clear()
        sound.tables[0].clear()
        sound.tables.clear()
        self.assertEqual((found.against, hopeless.against), ({(): Mixed(BAD)}, {(): Mixed(BAD)}))
        self.assertIs(found.shows(PLAN, OFFERS), True)

    def test_equality(self):
        sound, mixed = self.sound, self.against[()]
        one = Mended((1,), sound, {(): mixed})
        self.assertIs(one == Mended((1,), Sound(sound.tables), {(): Mixed(mixed.history)}), True)
        self.assertIs(one != Mended((1,), sound, {(): mixed}), False)
        self.assertIs(mend(WIDE, WIDE_OFFERS) == mend(WIDE, WIDE_OFFERS), True)
        for other in (Mended((2,), sound, {(): mixed}), Mended((1,), Sound([]), {(): mixed}), Mended((1,), mixed, {(): mixed}),
                      Mended((1,), sound, {}), Mended((1,), sound, {(0,): mixed}), Mended((1,), sound, {(): sound}),
                      Mended((1,), sound, {(): Mixed([])}), Hopeless({(): mixed}), sound, mixed, WIDE):
            self.assertIs(one == other, False)
            self.assertIs(one != other, True)


class HopelessShowsTest(unittest.TestCase):
    def setUp(self):
        self.against = mend(PLAN, NONE_HELPS).against

    def test_the_dict_in_any_order(self):
        for rows in itertools.islice(itertools.permutations(self.against.items()), 0, 40000, 997):
            self.assertIs(Hopeless(dict(rows)).shows(PLAN, NONE_HELPS), True)

    def test_dicts_changed_a_little(self):
        for choice, mixed in self.against.items():
            less = {row: found for row, found in self.against.items() if row != choice}
            self.assertIs(Hopeless(less).shows(PLAN, NONE_HELPS), False)
            for other in (Mixed(mixed.history[:-1]), Mixed([]), Sound([{}]), Sound([]), None, mixed.history):
                self.assertIs(Hopeless({**less, choice: other}).shows(PLAN, NONE_HELPS), False)
            for wrong in (tuple(map(bool, choice)), (3,), (0, 0), "0", None, (1, 0)):
                if wrong != ():
                    self.assertIs(Hopeless({**less, wrong: mixed}).shows(PLAN, NONE_HELPS), False)
            self.assertIs(Hopeless({**less, choice: mixed}).shows(PLAN, NONE_HELPS), True)
        self.assertIs(Hopeless({**self.against, (3,): Mixed(BAD)}).shows(PLAN, NONE_HELPS), False)
        for other in [[], list(self.against), None, 0, *NO_TUPLES]:
            made = Hopeless({})
            made.against = other
            self.assertIs(made.shows(PLAN, NONE_HELPS), False)

    def test_no_dict_shows_a_plan_with_a_good_choice(self):
        against = {choice: Mixed(BAD) for choice in slow.choices(OFFERS)}
        self.assertIs(Hopeless(against).shows(PLAN, OFFERS), False)
        self.assertIs(Hopeless({(): Mixed(BAD)}).shows(PLAN, OFFERS), False)
        self.assertIs(Hopeless({(): Mixed(BAD), (0,): Mixed(BAD)}).shows(PLAN, OFFERS[:1]), False)
        self.assertIs(Hopeless({}).shows(PLAN.ruled(0, None), NONE_HELPS), False)

    def test_equality(self):
        self.assertIs(Hopeless(self.against) == mend(PLAN, NONE_HELPS), True)
        self.assertIs(Hopeless(self.against) != Hopeless(dict(list(self.against.items())[::-1])), False)
        for other in (Hopeless({}), Hopeless({(): Mixed(BAD)}), mend(PLAN, OFFERS), Mixed(BAD), PLAN):
            self.assertIs(Hopeless(self.against) == other, False)
            self.assertIs(Hopeless(self.against) != other, True)


class DefinitionsTest(unittest.TestCase):
    def test_where_they_are_defined(self):
        for given in (plan_after, mend, least_cost, Mended, Hopeless):
            self.assertEqual(given.__module__, "shortkeys.mending")
        for given in (Mended, Hopeless):
            for name in ("__init__", "shows", "__eq__"):
                self.assertIn(name, vars(given))

    def test_by_keyword(self):
        found = mend(plan=PLAN, offers=OFFERS)
        self.assertIs(found.shows(plan=PLAN, offers=OFFERS), True)
        self.assertEqual(Mended(choice=found.choice, sound=found.sound, against=found.against), found)
        self.assertEqual(Hopeless(against={}), Hopeless({}))
        self.assertEqual(least_cost(plan=PLAN, offers=OFFERS), 2)
        self.assertEqual(plan_after(plan=PLAN, offers=OFFERS, choice=()), PLAN)


if __name__ == "__main__":
    unittest.main()
