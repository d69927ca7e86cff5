import itertools
import unittest

import slow
from odd import NO_STRINGS, NO_TUPLES, ODD, Liar

from shortkeys.errors import BadPlace, BadPlan
from shortkeys.judging import Mixed, Sound, is_sound, judge, mixes, soonest
from shortkeys.keeping import false_deeds
from shortkeys.keys import Key
from shortkeys.plans import Plan
from shortkeys.recipes import Recipe

WHO, PAGE = Recipe.field(0), Recipe.field(1)
DAY, HOUR = Recipe.cell(0), Recipe.cell(1)
FIRST, SECOND = Recipe.place(0), Recipe.place(1)
PLAN = Plan(2, 2, 1, ((PAGE * DAY, Key.of("f1")), (WHO.then(FIRST, PAGE), "reads")), drops=((0,),))
OTHER = PLAN.ruled(1, "shown")
BAD = [("ask", 1, (1, 1)), ("set", 0, 1), ("ask", 1, (1, 1))]
PLANS = [slow.any_plan(seed, shape) for seed in range(12) for shape in slow.SHAPES]
# A place that hangs on a cell that does not stand in its key, for which there is a false service after three deeds.
SHORT = Plan(2, 1, 1, ((WHO + DAY, Key.of("f0")),))
NO_PLANS = [None, 0, "plan", (2, 1, 1), Plan, WHO, Key(), *ODD]


def six():
    """A plan for which only a row that is made while both cells are 1 is false, and only when both are 0."""
    return Plan(2, 1, 2, ((DAY * HOUR, None), (FIRST.then(1, DAY.then(1, HOUR)), "shown")))


class JudgeTest(unittest.TestCase):
    def test_by_hand(self):
        self.assertIs(type(judge(PLAN)), Sound)
        self.assertIs(type(judge(OTHER)), Mixed)
        self.assertEqual([is_sound(PLAN), is_sound(OTHER)], [True, False])
        self.assertEqual([soonest(PLAN), soonest(OTHER)], [None, 3])

    def test_tables(self):
        found = judge(PLAN).tables
        self.assertIsInstance(found, list)
        self.assertEqual(found[0], {((day,), (("f1", page),)): page * day for day in (0, 1) for page in (0, 1)})
        self.assertEqual(found[1], {
            ((), (("f0", 1), ("p0", 0))): 0, ((), (("f0", 1), ("p0", 1))): 1,
            ((), (("f0", 0), ("f1", 0))): 0, ((), (("f0", 0), ("f1", 1))): 1})
        self.assertEqual(judge(Plan(2, 1, 0, ((WHO, None), (WHO, Key.of("f0"))))).tables,
                         [None, {((), (("f0", 0),)): 0, ((), (("f0", 1),)): 1}])

    def test_how_soon(self):
        self.assertEqual(soonest(Plan(2, 1, 0, ((WHO, Key()),))), 2)
        self.assertEqual(soonest(SHORT), 3)
        self.assertEqual(soonest(Plan(2, 1, 2, ((DAY * HOUR, Key()),))), 4)
        self.assertEqual(soonest(Plan(2, 1, 2, ((WHO * DAY * HOUR, Key.of("c0", "c1")),))), 4)
        self.assertEqual(soonest(Plan(2, 1, 2, ((DAY * HOUR, Key.of("c0")),))), 4)
        self.assertEqual(soonest(six()), 6)
        self.assertIs(judge(six()).shows(six()), True)

    def test_the_shortest_one_need_not_come_first(self):
        # The first place is mixed after three deeds, the second one after two.
        plan = Plan(2, 1, 1, ((DAY + 0, Key()), (WHO + 0, Key())))
        self.assertEqual(soonest(plan), 2)
        # The field that comes first is mixed only while the cell is 1.
        plan = Plan(2, 1, 1, ((WHO.same(DAY), Key.of("c0")),))
        self.assertEqual(soonest(plan), 2)
        plan = Plan(2, 2, 1, ((WHO.then(PAGE, PAGE * DAY), Key.of("f0", "c0")),))
        self.assertEqual(mixes(plan, 0)[0], (((0, 0), (1,)), ((0, 1), (1,))))
        self.assertEqual(soonest(plan), 2)

    def test_against_all_orders_of_deeds(self):
        found = []
        for seed, shape in itertools.product(range(40), slow.SHAPES[:4]):
            plan = slow.any_plan(seed, shape)
            found.append(slow.soonest(plan, 600))
            if found[-1] == "more":
                self.assertIn(soonest(plan), (None, 4, 5, 6))
            else:
                self.assertEqual(soonest(plan), found[-1])
        for many in (None, 2, 3):
            self.assertGreater(found.count(many), 3)

    def test_the_cells_change_until_no_new_stock_comes_about(self):
        plans = [SHORT, SHORT.ruled(0, "reads"), Plan(2, 1, 1, SHORT.places, drops=((0,),)), Plan(2, 1, 1, (
            (DAY + WHO, Key.of("c0")),)), Plan(2, 1, 1, ((DAY + 0, "reads"), (FIRST + 0, "shown")), drops=((1,),)),
            Plan(2, 1, 1, ((DAY + 0, "reads"), (FIRST + 0, "shown")), drops=((0,),)),
            Plan(2, 1, 1, ((DAY + 0, Key()), (FIRST + 0, "reads"))),
            Plan(2, 1, 1, ((DAY + 0, Key()), (FIRST + 0, Key.of("p0"))), drops=((0,),))]
        self.assertEqual([slow.soonest(plan, 10000) for plan in plans], [3, None, None, 2, None, 3, 3, None])
        self.assertEqual([soonest(plan) for plan in plans], [3, None, None, 2, None, 3, 3, None])

    def test_a_mixed_is_shown_by_its_history(self):
        for plan in PLANS:
            found = judge(plan)
            self.assertIs(found.shows(plan), True)
            self.assertEqual(is_sound(plan), isinstance(found, Sound))
            if isinstance(found, Mixed):
                self.assertIsInstance(found.history, list)
                self.assertTrue(2 <= len(found.history) <= 6)
                self.assertEqual(soonest(plan), len(found.history))
                self.assertEqual(false_deeds(plan, found.history), [len(found.history) - 1])
            else:
                self.assertIsNone(soonest(plan))
                self.assertEqual([mixes(plan, place) for place in range(len(plan))], [[]] * len(plan))

    def test_both_come_about_for_many_plans(self):
        kinds = [is_sound(plan) for plan in PLANS]
        for kind in (True, False):
            self.assertGreater(kinds.count(kind), 20)

    def test_no_rule_and_reads_are_always_sound(self):
        for plan in PLANS:
            for rule in (None, "reads"):
                places = tuple((recipe, rule) for recipe, other in plan.places)
                self.assertIs(is_sound(Plan(plan.base, plan.fields, plan.cells, places)), True)

    def test_drops_make_up_for_names(self):
        for drops, sound in ((((), ()), False), (((0,), ()), False), (((), (0,)), False), (((0,), (0,)), True)):
            plan = Plan(3, 1, 2, ((DAY + HOUR + WHO, Key.of("f0")),), drops=drops)
            self.assertIs(is_sound(plan), sound)
            self.assertIs(judge(plan).shows(plan), True)
            self.assertIs(is_sound(plan.ruled(0, Key.of("f0", "c0"))), 0 in drops[1])

    def test_wrong_plans(self):
        for call in (judge, is_sound, soonest, Sound([]).shows, Mixed([]).shows, lambda plan: mixes(plan, None)):
            for plan in NO_PLANS:
                with self.assertRaises(BadPlan) as caught:
                    call(plan)
                self.assertIsNone(caught.exception.part)


class MixesTest(unittest.TestCase):
    def test_against_a_slow_way(self):
        for plan in PLANS:
            for place in range(len(plan)):
                found = mixes(plan, place)
                self.assertIsInstance(found, list)
                self.assertEqual(found, slow.mixes(plan, place))

    def test_by_hand(self):
        self.assertEqual(mixes(Plan(2, 1, 1, ((WHO * DAY, Key.of("f0")),)), 0), [
            (((1,), (0,)), ((1,), (1,))), (((1,), (1,)), ((1,), (0,)))])
        # The first one in a pair makes the row: its marks have to be true for the other one, not the other way round.
        self.assertEqual({(maker[1], user[1]) for maker, user in mixes(six(), 1)}, {((1, 1), (0, 0))})
        self.assertEqual([len(mixes(OTHER, place)) for place in (0, 1)], [0, 6])

    def test_no_rule(self):
        self.assertEqual(mixes(SHORT.ruled(0, None), 0), [])
        self.assertEqual(len(mixes(SHORT.ruled(0, Key()), 0)), 8)

    def test_wrong_places(self):
        for place in [2, 3, -1, None, "0", "p0", (0,), *ODD]:
            with self.assertRaises(BadPlace):
                mixes(PLAN, place)


class SoundTest(unittest.TestCase):
    def setUp(self):
        self.tables = judge(PLAN).tables

    def shows(self, tables, plan=PLAN):
        made = Sound([])
        made.tables = tables
        return made.shows(plan)

    def changed(self, place, pair, number):
        tables = [dict(table) for table in self.tables]
        tables[place][pair] = number
        return self.shows(tables)

    def test_in_any_order(self):
        self.assertIs(Sound(self.tables).shows(PLAN), True)
        self.assertIs(Sound([dict(list(table.items())[::-1]) for table in self.tables]).shows(PLAN), True)

    def test_each_number_and_each_row_counts(self):
        for place, table in enumerate(self.tables):
            for pair in table:
                for n in (0, 1, 2, -1, True, False, None, "0", (1,), *ODD):
                    want = not isinstance(n, bool) and isinstance(n, int) and n == table[pair]
                    self.assertIs(self.changed(place, pair, n), want)
                tables = list(self.tables)
                tables[place] = {other: n for other, n in table.items() if other != pair}
                self.assertIs(self.shows(tables), False)

    def test_more_rows_that_are_true_or_false_in_a_situation(self):
        for number, want in ((0, False), (1, True)):
            self.assertIs(self.changed(0, ((1,), (("f1", 1), ("c0", 1))), number), want)
            self.assertIs(self.changed(0, ((1,), (("f0", 0), ("f1", 1))), number), want)
            self.assertIs(self.changed(0, ((1,), (("f1", 1), ("f1", 1))), number), want)
            self.assertIs(self.changed(1, ((), (("p0", 1),)), number), want)
            self.assertIs(self.changed(1, ((), (("f1", 1), ("c0", 1))), number), want)
        for number in (0, 1):
            self.assertIs(self.changed(0, ((1,), ()), number), False)
            self.assertIs(self.changed(1, ((), (("f0", 1),)), number), False)
            self.assertIs(self.changed(1, ((), ()), number), False)

    def test_pairs_that_match_no_situation(self):
        for number in (0, 1, 2, 7, -1, 10 ** 20):
            for pair in (((2,), ()), ((-1,), ()), ((), ()), ((1, 1), ()), ((10 ** 9,), (("f1", 1),)),
                         ((1,), (("f1", 2),)), ((1,), (("f1", -1),)), ((1,), (("f1", 0), ("f1", 1))),
                         ((1,), (("c0", 0),)), ((1,), (("f0", 10 ** 30),)), ((0, 0, 0), (("f1", 0),))):
                self.assertIs(self.changed(0, pair, number), True)
            for pair in (((0,), ()), ((1, 1), ()), ((), (("p0", 1), ("f1", 0))), ((), (("p0", 1), ("c0", 0)))):
                self.assertIs(self.changed(1, pair, number), True)

    def test_names_that_a_key_for_the_place_cannot_have(self):
        for name in ["p0", "p1", "f2", "c1", "", "F1", "f1 ", *NO_STRINGS]:
            for here in ((1,), (2,), ()):
                for marks in (((name, 1),), ((name, 5),), (("f1", 0), (name, 1)), (("f1", 7), (name, 1))):
                    try:
                        hash((here, marks))
                    except (TypeError, RuntimeError):
                        continue
                    self.assertIs(self.changed(0, (here, marks), 1), False)
        self.assertIs(self.changed(1, ((), (("p1", 9),)), 0), False)
        self.assertIs(self.changed(1, ((), (("p0", 9),)), 0), True)

    def test_pairs_of_other_kinds(self):
        for pair in [None, 0, "pair", (), ((1,),), ((1,), (), ()), (1, ()), ((1,), 1), ((1,), "f1"), ("1", ()),
                     ((1,), ("f1", 1)), ((1,), (("f1",),)), ((1,), (("f1", 1, 1),)), ((1,), (("f1", "1"),)),
                     ((1,), (("f1", True), ("f0", 0))), ((True,), (("f1", 0), ("f0", 1))), ((None,), ()), (("1",), ()),
                     ((2,), (("f1", True),)), ((True, True), ())]:
            self.assertIs(self.changed(0, pair, 1), False)

    def test_booleans_in_pairs_that_are_needed(self):
        for place, table in enumerate(self.tables):
            for pair in table:
                here, marks = pair
                for other in ((tuple(map(bool, here)), marks) if here else None,
                              (here, tuple((name, bool(n)) for name, n in marks))):
                    if other is not None:
                        tables = [dict(one) for one in self.tables]
                        del tables[place][pair]
                        tables[place][other] = table[pair]
                        self.assertIs(self.shows(tables), False)

    def test_marks_stand_in_the_order_of_the_row(self):
        tables = list(self.tables)
        tables[1] = {(here, marks[::-1]): n for (here, marks), n in tables[1].items()}
        self.assertIs(self.shows(tables), False)
        self.assertIs(self.shows([tables[0], {**tables[1], **self.tables[1]}]), True)

    def test_one_table_for_each_place(self):
        one, other = self.tables
        for tables in ([], [one], [other, one], [one, other, None], [one, other, {}], [None, other], [one, None],
                       [{}, other], [one, {}], [one, []], [one, 0], (one, other), None, {0: one, 1: other}, *NO_TUPLES):
            self.assertIs(self.shows(tables), False)
        for odd in ODD:
            self.assertIs(self.shows([one, odd]), False)
        bare = PLAN.ruled(1, None)
        self.assertIs(self.shows([one, None], bare), True)
        for table in ({}, other, [], 0, False, *ODD):
            self.assertIs(self.shows([one, table], bare), False)

    def test_no_tables_show_a_mixed_plan(self):
        for tables in (self.tables, [self.tables[0], {}], [self.tables[0], None]):
            self.assertIs(self.shows(tables, OTHER), False)
        for numbers in itertools.product((0, 1), repeat=2):
            self.assertIs(Sound([{((), (("f0", k),)): numbers[k] for k in (0, 1)}]).shows(SHORT), False)
        self.assertIs(Sound([{((c,), (("f0", k),)): k ^ c for k in (0, 1) for c in (0, 1)}]).shows(SHORT), False)
        dropped = Plan(2, 1, 1, SHORT.places, drops=((0,),))
        self.assertIs(Sound([{((c,), (("f0", k),)): k ^ c for k in (0, 1) for c in (0, 1)}]).shows(dropped), True)

    def test_the_cells_by_which_it_is_dropped_ascend(self):
        for drops, cells in ((((0,), (0,)), (0, 1)), (((0,), ()), (0,)), (((), (0,)), (1,)), (((), ()), ())):
            plan = Plan(3, 1, 2, ((DAY + 2 * HOUR, Key.of("c0", "c1")),), drops=drops)
            right = {(tuple((day, hour)[cell] for cell in cells), (("c0", day), ("c1", hour))): (day + 2 * hour) % 3
                     for day in range(3) for hour in range(3)}
            self.assertEqual(judge(plan), Sound([right]))
            self.assertIs(Sound([right]).shows(plan), True)

    def test_changed_by_hand(self):
        found = judge(PLAN)
        pair = list(found.tables[1])[0]
        found.tables[1][pair] = 1 - found.tables[1][pair]
        self.assertIs(found.shows(PLAN), False)
        found.tables[1][pair] = 1 - found.tables[1][pair]
        self.assertIs(found.shows(PLAN), True)
        found.tables.append(None)
        self.assertIs(found.shows(PLAN), False)

    def test_lists_and_dicts_are_copied_and_new(self):
        given = [dict(self.tables[0]), None]
        found = Sound(given)
        given[0].clear()
        given.clear()
        self.assertEqual(found.tables, [self.tables[0], None])
        judge(PLAN).tables[0].clear()
        self.assertEqual(judge(PLAN).tables, self.tables)

    def test_equality(self):
        self.assertIs(judge(PLAN) == judge(PLAN), True)
        self.assertIs(judge(PLAN) != judge(PLAN), False)
        self.assertIs(Sound([None]) == Sound([None]), True)
        for other in (Sound([]), Sound(self.tables[::-1]), Sound([self.tables[0], None]), Sound([{}, {}]), Mixed([]), PLAN):
            self.assertIs(judge(PLAN) == other, False)
            self.assertIs(judge(PLAN) != other, True)


class MixedTest(unittest.TestCase):
    def shows(self, history, plan=OTHER):
        made = Mixed([])
        made.history = history
        return made.shows(plan)

    def test_just_the_last_deed_counts(self):
        self.assertIs(Mixed(BAD).shows(OTHER), True)
        self.assertIs(Mixed(BAD).shows(PLAN), False)
        for many in range(3):
            self.assertIs(Mixed(BAD[:many]).shows(OTHER), False)
        for deed, want in ((("set", 0, 1), False), (("set", 0, 0), False), (BAD[0], True), (("ask", 0, (1, 1)), False)):
            self.assertIs(Mixed([*BAD, deed]).shows(OTHER), want)
        self.assertIs(Mixed([*BAD, ("set", 0, 0), BAD[0]]).shows(OTHER), False)

    def test_a_false_service_within_the_last_deed_is_enough(self):
        plan = Plan(2, 1, 1, ((DAY + 0, Key()), (FIRST * WHO, None)))
        self.assertIs(Mixed([("ask", 0, (0,)), ("set", 0, 1), ("ask", 1, (0,))]).shows(plan), True)

    def test_one_to_100_deeds(self):
        for many in (1, 50, 97):
            self.assertIs(Mixed([("set", 0, 0)] * many + BAD).shows(OTHER), True)
        for many in (98, 99, 500):
            self.assertIs(Mixed([("set", 0, 0)] * many + BAD).shows(OTHER), False)
        self.assertIs(Mixed([]).shows(OTHER), False)
        self.assertIs(Mixed([]).shows(PLAN), False)

    def test_what_is_no_history(self):
        wrong = [None, (), ("set", 0, 2), ("set", 0, True), ("set", False, 1), ("set", 1, 0), ["set", 0, 1],
                 ("ask", 2, (1, 1)), ("ask", True, (1, 1)), ("ask", 1, (1,)), ("ask", 1, (1, True)), ("ask", 1, [1, 1]),
                 ("asks", 1, (1, 1)), *ODD]
        for deed in wrong:
            self.assertIs(self.shows([deed, *BAD]), False)
            self.assertIs(self.shows([*BAD[:2], deed]), False)
            self.assertIs(self.shows([*BAD, deed]), False)
        for history in [tuple(BAD), None, 0, "history", {}, *NO_TUPLES]:
            self.assertIs(self.shows(history), False)

    def test_wrong_plan_before_what_is_no_history(self):
        for history in (None, (), [None], BAD):
            with self.assertRaises(BadPlan):
                self.shows(history, None)

    def test_changed_by_hand(self):
        found = judge(OTHER)
        self.assertIs(found.shows(OTHER), True)
        found.history.append(("set", 0, 0))
        self.assertIs(found.shows(OTHER), False)
        found.history.pop()
        self.assertIs(found.shows(OTHER), True)
        found.history[0] = ("set", 0, 0)
        self.assertIs(found.shows(OTHER), False)

    def test_the_list_is_copied_and_new(self):
        given = list(BAD)
        found = Mixed(given)
        given.clear()
        self.assertEqual(found.history, BAD)
        judge(OTHER).history.clear()
        self.assertEqual(len(judge(OTHER).history), 3)

    def test_equality(self):
        self.assertIs(Mixed(BAD) == Mixed(list(BAD)), True)
        self.assertIs(Mixed(BAD) != Mixed(BAD), False)
        for other in (Mixed([]), Mixed(BAD[:2]), Mixed(BAD[1:]), Sound([]), Sound([None]), WHO):
            self.assertIs(Mixed(BAD) == other, False)
            self.assertIs(Mixed(BAD) != other, True)
        self.assertIs(Mixed([]) == Sound([]), False)


class DefinitionsTest(unittest.TestCase):
    def test_where_they_are_defined(self):
        for given in (judge, is_sound, soonest, mixes, Sound, Mixed):
            self.assertEqual(given.__module__, "shortkeys.judging")
        for given in (Sound, Mixed):
            for name in ("__init__", "shows", "__eq__"):
                self.assertIn(name, vars(given))

    def test_by_keyword(self):
        self.assertIs(judge(plan=PLAN).shows(plan=PLAN), True)
        self.assertIs(is_sound(plan=PLAN), True)
        self.assertEqual((soonest(plan=OTHER), len(mixes(plan=OTHER, place=1))), (3, 6))
        self.assertEqual(Sound(tables=[None]), Sound([None]))
        self.assertEqual(Mixed(history=BAD), Mixed(BAD))
        self.assertIsNot(judge(PLAN), judge(PLAN))

    def test_wrong_plan_before_wrong_place(self):
        with self.assertRaises(BadPlan):
            mixes(Liar(), Liar())


if __name__ == "__main__":
    unittest.main()
