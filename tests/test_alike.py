import itertools
import random
import unittest

import slow
from odd import NO_TUPLES, ODD, Liar, Thrower

from shortkeys.alike import Parted, Same, are_alike, compare, parting_length
from shortkeys.errors import BadPair, BadPlan, TooLarge
from shortkeys.judging import Mixed
from shortkeys.keeping import after, first_stock
from shortkeys.keys import Key
from shortkeys.plans import Plan
from shortkeys.recipes import Recipe
from shortkeys.texts import read_plan

WHO, PAGE, THIRD = Recipe.field(0), Recipe.field(1), Recipe.field(2)
DAY, HOUR = Recipe.cell(0), Recipe.cell(1)
FIRST, SECOND = Recipe.place(0), Recipe.place(1)
SHORT = Plan(2, 1, 1, ((WHO + DAY, Key.of("f0")),))
FULL, BARE = SHORT.ruled(0, "reads"), SHORT.ruled(0, None)
DROPPED = Plan(2, 1, 1, SHORT.places, drops=((0,),))
BAD = [("ask", 0, (1,)), ("set", 0, 1), ("ask", 0, (1,))]
NO_PLANS = [None, 0, "plan", (2, 1, 1), Plan, WHO, Key(), *ODD]
# Pairs of plans with the number of the pairs of their stocks that come about, and the least number of deeds that part them.
SIZES = [
    (300, None, "base 2\nfields 1\ncells 2\nplace shown f0\nplace none f0\nplace none (p0-c0)\ndrops\ndrops 1\n",
     "base 2\nfields 1\ncells 2\nplace shown ((f0+f0)-f0)\nplace shown (1?f0:(c1?c1:f0))\nplace reads ((c0*0)?p0:(p0-(1*c0)))"
     "\ndrops 2\ndrops\n"),
    (300, None, "base 2\nfields 3\ncells 2\nplace reads (f2+0)\nplace reads f1\nplace none (f0-f0)\ndrops 2\ndrops 0 2\n",
     "base 2\nfields 3\ncells 2\nplace reads (f2+0)\nplace reads f1\nplace none 0\ndrops 0 2\ndrops 0 2\n"),
    (300, 3, "base 2\nfields 1\ncells 2\nplace none (((0-f0)+(c1=c1))?(1-f0):(f0-f0))\nplace shown p0\n"
     "place shown ((c0=0)=f0)\ndrops 1 2\ndrops 2\n",
     "base 2\nfields 1\ncells 2\nplace none (((0-f0)+(c1=c1))?(1-f0):(f0-f0))\nplace shown p0\n"
     "place reads ((c0=0)=f0)\ndrops 0 1 2\ndrops 1\n"),
    (301, None, "base 2\nfields 2\ncells 0\nplace reads f1\nplace key,f0,f1,p0 (p0-(p0*p0))\nplace shown (((p1=1)+p1)=p1)\n",
     "base 2\nfields 2\ncells 0\nplace reads f1\nplace reads (p0-(p0*p0))\nplace reads (((p1=1)+p1)=p1)\n"),
    (301, None, "base 2\nfields 2\ncells 0\nplace key,f0 (f0?f1:f1)\nplace none f1\nplace key,p0,p1 f1\n",
     "base 2\nfields 2\ncells 0\nplace key,f0 (f0?f1:f1)\nplace none f1\nplace key,p0,p1 f1\n"),
    (301, 2, "base 2\nfields 3\ncells 0\nplace shown (f1=f0)\nplace key (f2-(p0-(f2=0)))\nplace none (1?((p1-p0)?p0:f1):f1)\n",
     "base 2\nfields 3\ncells 0\nplace shown (f1=f0)\nplace none (f2-(p0-(f2=0)))\nplace none (1?((p1-p0)?p0:f1):f1)\n"),
]


def frozen(last):
    """A plan with two places that keep what they came to at first, and a last place."""
    once = (DAY * HOUR, Key())
    # Comes to 1 only if the first place was made while both cells were 1, and both are 0 now.
    then = (FIRST.then((DAY + HOUR - DAY * HOUR).same(0), 0), Key())
    return Plan(2, 1, 2, (once, then, last))


def some_pairs():
    """Pairs of plans that can be compared, of many shapes."""
    plans = [(seed, slow.any_plan(seed, shape)) for seed in range(8) for shape in slow.SHAPES]
    plans += [(seed, slow.any_plan(seed, shape)) for seed in range(8, 40) for shape in slow.SHAPES[:3]]
    return [(plan, slow.any_rules(seed, plan)) for seed, plan in plans]


PAIRS = some_pairs()


class CompareTest(unittest.TestCase):
    def test_by_hand(self):
        self.assertIs(type(compare(FULL, BARE)), Same)
        self.assertIs(type(compare(SHORT, FULL)), Parted)
        self.assertEqual([are_alike(FULL, BARE), are_alike(SHORT, FULL)], [True, False])
        self.assertEqual([parting_length(FULL, BARE), parting_length(SHORT, FULL)], [None, 3])
        self.assertIs(compare(SHORT, FULL).shows(SHORT, FULL), True)
        self.assertIs(compare(FULL, BARE).shows(FULL, BARE), True)

    def test_a_plan_is_like_itself(self):
        for plan in (SHORT, FULL, BARE, DROPPED):
            self.assertIs(are_alike(plan, plan), True)
            self.assertIs(are_alike(plan, Plan(2, 1, 1, plan.places, drops=plan.drops)), True)
            found = compare(plan, plan)
            self.assertTrue(all(left == right for left, right in found.couples))

    def test_alike_with_other_recipes_rules_and_drops(self):
        other = Plan(2, 1, 1, ((DAY - WHO, "reads"),))
        self.assertIs(are_alike(FULL, other), True)
        for rule in (None, "reads", "shown", Key.of("f0", "c0")):
            self.assertIs(are_alike(other.ruled(0, rule), BARE), True)
            self.assertIs(are_alike(BARE, other.ruled(0, rule)), True)
        self.assertIs(are_alike(DROPPED, other.ruled(0, None)), True)
        self.assertIs(are_alike(SHORT, Plan(2, 1, 1, ((WHO.same(DAY).same(0), Key.of("f0")),))), True)
        # Both are not sound, but always serve the same.
        self.assertIs(are_alike(Plan(2, 1, 1, ((DAY + 0, Key()),)), Plan(2, 1, 1, ((DAY * DAY, Key()),))), True)
        three = Plan(3, 1, 1, ((WHO * DAY, None), (FIRST + WHO, Key.of("f0"))), drops=((1,),))
        flat = Plan(3, 1, 1, ((DAY * WHO, None), (WHO * (1 + DAY), None)), drops=((0, 1),))
        self.assertIs(are_alike(three, flat), True)
        self.assertIs(compare(three, flat).shows(three, flat), True)

    def test_parted_at_the_first_deed(self):
        for other in (WHO - DAY + 1, WHO * DAY, Recipe.number(1), WHO.same(0)):
            plan = Plan(2, 1, 1, ((other, "reads"),))
            found = compare(plan, FULL)
            self.assertEqual((type(found), len(found.history), parting_length(plan, FULL)), (Parted, 1, 1))
            self.assertIs(found.shows(plan, FULL), True)
        # Only one of all first deeds parts these.
        one = Plan(2, 3, 0, ((WHO, None), (WHO * PAGE * THIRD, None)))
        two = Plan(2, 3, 0, ((WHO, None), (Recipe.number(0), None)))
        self.assertEqual(compare(one, two), Parted([("ask", 1, (1, 1, 1))]))

    def test_a_cell_that_has_to_be_set_first(self):
        one, two = Plan(3, 1, 1, ((WHO, None),)), Plan(3, 1, 1, ((WHO + DAY.same(2), None),))
        self.assertEqual(parting_length(one, two), 2)
        self.assertEqual(compare(one, two).history[0], ("set", 0, 2))

    def test_parted_only_behind_many_deeds(self):
        last = SECOND * DAY * HOUR
        for one, two, many in ((frozen((last, None)), frozen((SECOND * 0, None)), 9),
                               (frozen((last, None)), frozen((last, Key())), 9),
                               (frozen((last, None)), frozen((last, Key.of("p1"))), 9)):
            self.assertEqual(slow.likeness(one, two, 300)[1], many)
            self.assertEqual((parting_length(one, two), parting_length(two, one)), (many, many))
            found = compare(one, two)
            self.assertEqual(len(found.history), many)
            self.assertIs(found.shows(one, two), True)
            for less in range(many):
                self.assertIs(Parted(found.history[:less]).shows(one, two), False)

    def test_against_a_slow_way(self):
        kinds = []
        for one, two in PAIRS:
            many, soonest = slow.likeness(one, two, 300)
            if many > 300:
                for call in (compare, are_alike, parting_length):
                    with self.assertRaises(TooLarge):
                        call(one, two)
                kinds.append("large")
                continue
            found = compare(one, two)
            kinds.append(type(found))
            self.assertIs(type(found), Same if soonest is None else Parted)
            self.assertIs(are_alike(one, two), soonest is None)
            self.assertEqual(parting_length(one, two), soonest)
            self.assertIs(found.shows(one, two), True)
            self.assertEqual(len(found.couples if soonest is None else found.history), many if soonest is None else soonest)
        for kind in ("large", Same, Parted):
            self.assertGreater(kinds.count(kind), 4)

    def test_just_300_pairs_of_stocks_and_one_more(self):
        for many, soonest, *texts in SIZES:
            one, two = [read_plan(text) for text in texts]
            self.assertEqual(slow.likeness(one, two, 400), (many, soonest))
            for left, right in ((one, two), (two, one)):
                if many > 300:
                    for call in (compare, are_alike, parting_length):
                        with self.assertRaises(TooLarge):
                            call(left, right)
                else:
                    self.assertEqual(parting_length(left, right), soonest)
                    self.assertIs(are_alike(left, right), soonest is None)
                    self.assertIs(compare(left, right).shows(left, right), True)

    def test_too_large_also_if_the_first_deed_parts(self):
        rows = ((WHO, "reads"), (WHO + PAGE + THIRD, "reads"), (THIRD * DAY, "reads"))
        one = Plan(2, 3, 1, rows)
        for last in (THIRD * DAY, THIRD * DAY + 1):
            two = Plan(2, 3, 1, (*rows[:2], (last, "reads")))
            for call in (compare, are_alike, parting_length):
                with self.assertRaises(TooLarge):
                    call(one, two)
        # With parting deeds alone, no more than the first pair comes about.
        self.assertEqual(parting_length(Plan(3, 3, 0, ((WHO, "reads"),)), Plan(3, 3, 0, ((WHO + 1, "reads"),))), 1)

    def test_pairs_behind_a_deed_that_parts_do_not_count(self):
        one = Plan(2, 3, 0, ((WHO, Key.of("f0", "f1", "f2")),))
        two = Plan(2, 3, 0, ((WHO.then(1 - PAGE * THIRD, PAGE * THIRD), Key.of("f0", "f1", "f2")),))
        many, soonest = slow.likeness(one, two, 300)
        self.assertEqual((many > 300, soonest), (True, 1))
        two = Plan(2, 3, 0, ((WHO.then(1 - PAGE, PAGE), Key.of("f0", "f1", "f2")),))
        self.assertEqual(slow.likeness(one, two, 300), (65, 1))
        self.assertEqual(parting_length(one, two), 1)

    def test_plans_that_cannot_be_compared(self):
        plans = [Plan(2, 1, 1, ((WHO, None),)), Plan(3, 1, 1, ((WHO, None),)), Plan(2, 2, 1, ((WHO, None),)),
                 Plan(2, 1, 2, ((WHO, None),)), Plan(2, 1, 1, ((WHO, None), (WHO, None))), Plan(2, 1, 0, ((WHO, None),)),
                 Plan(2, 2, 0, ((WHO, None),)), Plan(2, 1, 1, ((WHO, None),) * 3), Plan(2, 3, 0, ((WHO, None),))]
        for (at, one), (to, two) in itertools.product(enumerate(plans), repeat=2):
            for call in (compare, are_alike, parting_length, Same([]).shows, Parted([]).shows, Parted(BAD).shows):
                if at == to:
                    call(one, two)
                else:
                    with self.assertRaises(BadPair):
                        call(one, two)

    def test_what_cannot_be_compared_before_what_is_too_large(self):
        large = Plan(2, 3, 1, ((WHO, "reads"), (PAGE, "reads"), (THIRD, "reads")))
        with self.assertRaises(BadPair):
            compare(large, Plan(2, 3, 2, large.places))
        with self.assertRaises(BadPlan):
            compare(large, None)

    def test_wrong_plans(self):
        for call in (compare, are_alike, parting_length, Same([]).shows, Same([None]).shows, Parted([]).shows):
            for plan in NO_PLANS:
                for pair in ((plan, SHORT), (SHORT, plan), (plan, plan), (Liar(), plan), (plan, Thrower())):
                    with self.assertRaises(BadPlan) as caught:
                        call(*pair)
                    self.assertIsNone(caught.exception.part)

    def test_results_are_new(self):
        compare(FULL, BARE).couples.clear()
        compare(SHORT, FULL).history.clear()
        self.assertIs(compare(FULL, BARE).shows(FULL, BARE), True)
        self.assertIs(compare(SHORT, FULL).shows(SHORT, FULL), True)
        self.assertIsNot(compare(FULL, BARE), compare(FULL, BARE))


class SameTest(unittest.TestCase):
    def setUp(self):
        self.couples = compare(FULL, BARE).couples

    def shows(self, couples, one=FULL, two=BARE):
        made = Same([])
        made.couples = couples
        return made.shows(one, two)

    def test_in_any_order_and_more_than_once(self):
        self.assertIs(self.shows(self.couples), True)
        for seed in range(20):
            rows = self.couples + self.couples[:seed]
            random.Random(seed).shuffle(rows)
            self.assertIs(self.shows(rows), True)

    def test_each_pair_is_needed(self):
        self.assertEqual(len(self.couples), 130)
        for at in range(len(self.couples)):
            self.assertIs(self.shows(self.couples[:at] + self.couples[at + 1:]), False)
        self.assertIs(self.shows([]), False)
        self.assertIs(self.shows(self.couples[:1]), False)
        self.assertIs(self.shows([(first_stock(FULL), first_stock(BARE))]), False)

    def test_the_first_pair_is_needed(self):
        one, two = Plan(2, 1, 1, ((WHO * DAY, None),)), Plan(2, 1, 1, ((DAY * WHO, None),))
        stocks = [((0,), ((),)), ((1,), ((),))]
        self.assertIs(self.shows([(stock, stock) for stock in stocks], one, two), True)
        # Without asks that make rows, a cell can always be set back: so these are left by no deed.
        kept = one.ruled(0, "reads")
        held = [stock[:1] + ((((("f0", 0), ("c0", 0)), 0), ((("f0", 0), ("c0", 1)), 0), ((("f0", 1), ("c0", 0)), 0),
                              ((("f0", 1), ("c0", 1)), 1)),) for stock in stocks]
        held = [(now, (rows,)) for now, rows in held]
        couples = list(zip(held, stocks))
        self.assertEqual([after(kept, couple[0], deed)[1] for couple in couples for deed in slow.deeds(kept)],
                         [held[0][1]] * 8)
        self.assertIs(self.shows(couples, kept, two), False)
        self.assertIs(self.shows(couples + compare(kept, two).couples, kept, two), True)

    def test_pairs_that_cannot_come_about(self):
        # A row without any marks, but with the right number, stays, and is served in the one situation that there is.
        one, two = Plan(2, 1, 0, ((Recipe.number(1), Key()),)), Plan(2, 1, 0, ((Recipe.number(1), None),))
        bare = ((), ((),))
        couples = [(bare, bare), (((), ((((), 1),),)), bare)]
        self.assertEqual(compare(one, two).couples, couples)
        for rows, want in ((((((), 1), ((), 1))), True), ((((), 1), ((), 0)), True), ((((), 0), ((), 1)), False),
                           (((((("f0", 0),)), 0), ((), 1)), True)):
            self.assertIs(self.shows(couples + [(((), (rows,)), bare)], one, two), want)
        # A row that is served wrongly is not as in the plan without rules; one that never fits stays unseen.
        self.assertIs(self.shows(couples + [(((), ((((("f0", 0), ("f0", 1)), 0),),)), bare)], one, two), False)
        self.assertIs(self.shows(couples + [(((), ((((("f0", 0), ("f0", 1)), 0), ((), 1)),)), bare)], one, two), True)

    def test_pairs_at_which_a_deed_parts(self):
        wrong = (((0,), ((((("f0", 0), ("c0", 0)), 1),),)), ((0,), ((),)))
        self.assertIs(self.shows(self.couples + [wrong]), False)
        self.assertIs(self.shows([wrong] + self.couples), False)
        self.assertIs(self.shows(compare(FULL, FULL).couples, FULL, FULL), True)
        self.assertIs(self.shows(self.couples + [(self.couples[0][0], ((1,), ((),)))]), False)

    def test_no_list_shows_plans_that_are_parted(self):
        for couples in (self.couples, [(first_stock(SHORT), first_stock(BARE))], compare(SHORT, SHORT).couples):
            self.assertIs(self.shows(couples, SHORT, BARE), False)
            self.assertIs(self.shows(couples, SHORT, FULL), False)

    def test_for_other_plans(self):
        self.assertIs(self.shows(self.couples, BARE, FULL), False)
        self.assertIs(self.shows([(right, left) for left, right in self.couples], BARE, FULL), True)
        self.assertIs(self.shows(self.couples, FULL, FULL), False)
        self.assertIs(self.shows(self.couples, FULL, Plan(2, 1, 1, ((DAY - WHO, None),))), True)

    def test_what_is_no_pair_of_stocks(self):
        stock = ((0,), ((),))
        wrong = [None, (), (stock,), (stock, stock, stock), [stock, stock], (stock, None), (None, stock), (stock, ((0,), ())),
                 (((2,), ((),)), stock), (((True,), ((),)), stock), (stock, ((False,), ((),))), (((0,), ()), stock),
                 (((0,), ((), ())), stock), (((), ((),)), stock), (stock, ((0, 0), ((),))), (((0,), [()]), stock),
                 (((0,), ([],)), stock), ([(0,), ((),)], stock), (((0,), ((((), 0),),)), ((0,), ((((), 0),),))),
                 (((0,), ((((), True),),)), stock), (((0,), ((((), 2),),)), stock), (((0,), (((("c1", 0),), 0),)), stock),
                 (((0,), ((((("c1", 0),), 0),),)), stock), (((0,), ((((("f0", True),), 0),),)), stock),
                 (((0,), ((((("f0", 2),), 0),),)), stock), (((0,), (((["f0", 0],), 0),)), stock), *ODD]
        for couple in wrong:
            self.assertIs(self.shows(self.couples + [couple]), False)
            self.assertIs(self.shows([couple] + self.couples), False)
        for couples in [None, 0, tuple(self.couples), {couple: True for couple in self.couples}, "couples", *NO_TUPLES]:
            self.assertIs(self.shows(couples), False)

    def test_booleans_in_pairs_that_are_needed(self):
        for at in (0, 1, 2, 50, 129):
            (now, rows), right = self.couples[at]
            for couple in (((tuple(map(bool, now)), rows), right), ((now, rows), (tuple(map(bool, now)), ((),)))):
                self.assertIs(self.shows(self.couples[:at] + [couple] + self.couples[at + 1:]), False)
                self.assertIs(self.shows(self.couples + [couple]), False)

    def test_stocks_that_are_changed_a_little(self):
        for at in (0, 3, 40, 129):
            (now, rows), (other, none) = self.couples[at]
            for couple in (((1 - now[0],), rows), (other, none)), ((now, rows), ((1 - other[0],), none)):
                self.assertIs(self.shows(self.couples[:at] + [couple] + self.couples[at + 1:]), False)

    def test_more_than_300_pairs_are_looked_at(self):
        # There are too many to find them all, but for whoever has them, the list can be looked at.
        one, two = [read_plan(text) for text in SIZES[4][2:]]
        first = (first_stock(one), first_stock(two))
        known, waiting = [first], [first]
        while waiting:
            left, right = waiting.pop()
            for deed in slow.deeds(one):
                pair = (after(one, left, deed), after(two, right, deed))
                if pair not in known:
                    known.append(pair)
                    waiting.append(pair)
        self.assertEqual(len(known), 301)
        self.assertIs(Same(known).shows(one, two), True)
        self.assertIs(Same(known[:-1]).shows(one, two), False)
        self.assertIs(Parted([("ask", 0, (0, 0))]).shows(one, two), False)

    def test_changed_by_hand(self):
        found = compare(FULL, BARE)
        last = found.couples.pop()
        self.assertIs(found.shows(FULL, BARE), False)
        found.couples.insert(0, last)
        self.assertIs(found.shows(FULL, BARE), True)

    def test_the_list_is_copied(self):
        given = list(self.couples)
        found = Same(given)
        given.clear()
        self.assertEqual(found.couples, self.couples)

    def test_equality(self):
        self.assertIs(Same(self.couples) == compare(FULL, BARE), True)
        self.assertIs(Same(self.couples) != Same(list(self.couples)), False)
        for other in (Same([]), Same(self.couples[1:]), Parted(self.couples), Parted([]), FULL):
            self.assertIs(Same(self.couples) == other, False)
            self.assertIs(Same(self.couples) != other, True)
        self.assertIs(Same([]) == Parted([]), False)


class PartedTest(unittest.TestCase):
    def shows(self, history, one=SHORT, two=FULL):
        made = Parted([])
        made.history = history
        return made.shows(one, two)

    def test_just_the_last_deed_parts(self):
        self.assertIs(self.shows(BAD), True)
        for many in range(3):
            self.assertIs(self.shows(BAD[:many]), False)
        for deed in slow.deeds(SHORT):
            self.assertIs(self.shows([*BAD, deed]), False)
            self.assertIs(self.shows([*BAD[:2], deed]), deed == BAD[2])
        self.assertIs(self.shows([*BAD[:2], ("ask", 0, (0,)), BAD[2]]), True)
        self.assertIs(self.shows([BAD[0], ("ask", 0, (0,)), ("set", 0, 1), ("ask", 0, (0,))]), True)
        self.assertIs(self.shows([BAD[0], ("ask", 0, (0,)), ("set", 0, 1), ("ask", 0, (0,)), BAD[2]]), False)

    def test_histories_of_any_length(self):
        for many in (1, 97, 98, 200, 1000):
            self.assertIs(self.shows([("set", 0, 0)] * many + BAD), True)
            self.assertIs(self.shows(BAD[:2] + [("ask", 0, (0,))] * many + BAD[2:]), True)
            self.assertIs(self.shows([("set", 0, 0)] * many), False)

    def test_for_other_plans(self):
        self.assertIs(self.shows(BAD, FULL, SHORT), True)
        self.assertIs(self.shows(BAD, SHORT, SHORT), False)
        self.assertIs(self.shows(BAD, FULL, BARE), False)
        self.assertIs(self.shows(BAD, SHORT, BARE), True)
        self.assertIs(self.shows(BAD, SHORT, DROPPED), True)

    def test_plans_with_too_many_pairs_of_stocks(self):
        one = Plan(2, 3, 1, ((WHO, "reads"), (PAGE + 0, "reads"), (THIRD * DAY, "reads")))
        two = one.ruled(2, Key.of("f2"))
        with self.assertRaises(TooLarge):
            compare(one, two)
        history = [("ask", 2, (0, 0, 1)), ("set", 0, 1), ("ask", 2, (0, 0, 1))]
        self.assertIs(Parted(history).shows(one, two), True)
        self.assertIs(Parted(history[1:]).shows(one, two), False)
        self.assertIs(Same([]).shows(one, two), False)

    def test_what_is_no_deed(self):
        wrong = [None, (), ("set", 0, 2), ("set", 0, True), ("set", False, 1), ("set", 1, 0), ["set", 0, 1],
                 ("ask", 1, (1,)), ("ask", True, (1,)), ("ask", 0, (1, 1)), ("ask", 0, (True,)), ("ask", 0, [1]),
                 ("asks", 0, (1,)), ("ask", 0), *ODD]
        for deed in wrong:
            for at in range(4):
                self.assertIs(self.shows(BAD[:at] + [deed] + BAD[at:]), False)
        for history in [None, 0, tuple(BAD), "history", {}, *NO_TUPLES]:
            self.assertIs(self.shows(history), False)

    def test_changed_by_hand(self):
        found = compare(SHORT, FULL)
        found.history.append(("set", 0, 0))
        self.assertIs(found.shows(SHORT, FULL), False)
        found.history.pop()
        self.assertIs(found.shows(SHORT, FULL), True)

    def test_the_list_is_copied(self):
        given = list(BAD)
        found = Parted(given)
        given.clear()
        self.assertEqual(found.history, BAD)

    def test_equality(self):
        self.assertIs(Parted(BAD) == Parted(list(BAD)), True)
        self.assertIs(Parted(BAD) != Parted(BAD), False)
        for other in (Parted([]), Parted(BAD[1:]), Same(BAD), Same([]), Mixed(BAD), WHO):
            self.assertIs(Parted(BAD) == other, False)
            self.assertIs(Parted(BAD) != other, True)


class DefinitionsTest(unittest.TestCase):
    def test_where_they_are_defined(self):
        for given in (compare, are_alike, parting_length, Same, Parted):
            self.assertEqual(given.__module__, "shortkeys.alike")
        for given in (Same, Parted):
            for name in ("__init__", "shows", "__eq__"):
                self.assertIn(name, vars(given))

    def test_by_keyword(self):
        self.assertIs(compare(one=SHORT, other=FULL).shows(one=SHORT, other=FULL), True)
        self.assertEqual((are_alike(one=SHORT, other=FULL), parting_length(one=SHORT, other=FULL)), (False, 3))
        self.assertEqual((Same(couples=[]), Parted(history=BAD)), (Same([]), Parted(BAD)))


if __name__ == "__main__":
    unittest.main()
