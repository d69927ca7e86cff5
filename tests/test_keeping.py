import random
import unittest

import slow
from odd import NO_INTEGERS, NO_STRINGS, NO_TUPLES, ODD, Liar, Thrower

from shortkeys.errors import BadDeed, BadHistory, BadPlan, BadStock
from shortkeys.keeping import after, false_deeds, first_stock, runs, stock_after, told, traced
from shortkeys.keys import Key
from shortkeys.plans import Plan
from shortkeys.recipes import Recipe

WHO, PAGE = Recipe.field(0), Recipe.field(1)
DAY, HOUR = Recipe.cell(0), Recipe.cell(1)
FIRST, SECOND = Recipe.place(0), Recipe.place(1)
PLAN = Plan(2, 2, 1, ((PAGE * DAY, Key.of("f1")), (WHO.then(FIRST, PAGE), "reads")), drops=((0,),))
HISTORY = [("ask", 1, (1, 1)), ("set", 0, 1), ("ask", 1, (1, 1)), ("ask", 1, (0, 1))]
ASK = ("ask", 0, (1,))
OVER_HISTORIES = [stock_after, told, traced, false_deeds, runs]
NO_PLANS = [None, 0, "plan", (2, 1, 1), Plan, WHO, Key(), *ODD]
WORDS = ["", "Set", "ask ", "run", "served", "place", *NO_STRINGS]
NO_DEEDS = [
    None, (), ("set",), ("set", 0), ("set", 0, 1, 0), ["set", 0, 1], ("set", 1, 0), ("set", -1, 0), ("set", 0, 2),
    ("set", 0, -1), ("set", "c0", 0), ("set", 0, (1,)), ("set", True, 0), ("set", False, 0), ("set", 0, True),
    ("ask",), ("ask", 0), ("ask", 0, (0, 0), 0), ["ask", 0, (0, 0)], ("ask", 2, (0, 0)), ("ask", -1, (0, 0)),
    ("ask", "p0", (0, 0)), ("ask", False, (0, 0)), ("ask", 0, ()), ("ask", 0, (0,)), ("ask", 0, (0, 0, 0)),
    ("ask", 0, (0, 2)), ("ask", 0, (-1, 0)), ("ask", 0, [0, 0]), ("ask", 0, (0, True)), ("ask", 0, (False, 0)),
    ("ask", 0, 0), ("ask", 0, "00"), ("ask", 0, (0, "0")), ("ask", 0, ((0, 0), (0,))), ("ask", (0, 0), 0), "set", "ask",
    *ODD, *[(word, 0, 1) for word in WORDS], *[(word, 0, (0, 0)) for word in WORDS], *[("set", odd, 0) for odd in ODD],
    *[("set", 0, odd) for odd in ODD], *[("ask", odd, (0, 0)) for odd in ODD], *[("ask", 0, odd) for odd in ODD],
    *[("ask", 0, (0, odd)) for odd in ODD], *[("set", odd, 0) for odd in NO_INTEGERS],
    *[("ask", 0, odd) for odd in NO_TUPLES],
]


def kept(plan, history, place):
    """The rows of a place after a history."""
    return stock_after(plan, history)[1][place]


class RulesTest(unittest.TestCase):
    def test_no_rule_runs_each_time_and_keeps_nothing(self):
        plan = Plan(2, 1, 1, ((WHO + DAY, None),))
        history = [ASK, ASK, ("set", 0, 1), ASK]
        self.assertEqual(told(plan, history), [1, 1, None, 0])
        self.assertEqual(traced(plan, history), [[(0, "run", 1)], [(0, "run", 1)], [], [(0, "run", 0)]])
        self.assertEqual(stock_after(plan, history), ((1,), ((),)))
        self.assertEqual((runs(plan, history), false_deeds(plan, history)), ([3], []))

    def test_a_key_serves_what_has_the_same_marks(self):
        plan = Plan(2, 1, 1, ((WHO + DAY, Key.of("f0")),))
        history = [ASK, ASK, ("set", 0, 1), ASK, ("ask", 0, (0,)), ("set", 0, 0), ASK]
        self.assertEqual(told(plan, history), [1, 1, None, 1, 1, None, 1])
        self.assertEqual([trace[0][1] if trace else None for trace in traced(plan, history)],
                         ["run", "served", None, "served", "run", None, "served"])
        self.assertEqual(stock_after(plan, history), ((0,), ((((("f0", 1),), 1), ((("f0", 0),), 1)),)))
        # The number is false while the cell is 1, and true again when it is 0.
        self.assertEqual(false_deeds(plan, history), [3])
        self.assertEqual(runs(plan, history), [2])

    def test_the_empty_key_serves_all(self):
        plan = Plan(2, 1, 0, ((WHO + 0, Key()),))
        history = [("ask", 0, (0,)), ASK, ("ask", 0, (0,))]
        self.assertEqual(traced(plan, history), [[(0, "run", 0)], [(0, "served", 0)], [(0, "served", 0)]])
        self.assertEqual(stock_after(plan, history), ((), ((((), 0),),)))
        self.assertEqual(false_deeds(plan, history), [1])

    def test_the_names_of_a_key_are_asked_for_before_the_run_and_again_in_it(self):
        plan = Plan(2, 1, 0, ((WHO + 0, None), (FIRST + FIRST * WHO, Key.of("f0", "p0"))))
        history = [("ask", 1, (1,)), ("ask", 1, (1,))]
        # For the marks, and once in the run, although it stands there twice; then for the marks alone.
        self.assertEqual(traced(plan, history), [[(0, "run", 1), (0, "run", 1), (1, "run", 0)],
                                                 [(0, "run", 1), (1, "served", 0)]])
        self.assertEqual(kept(plan, history, 1), (((("f0", 1), ("p0", 1)), 0),))
        self.assertEqual(runs(plan, history), [3, 1])

    def test_reads_keeps_the_reads_of_the_run_in_their_order(self):
        plan = Plan(2, 2, 1, ((DAY.then(PAGE, WHO) + DAY, "reads"),))
        history = [("ask", 0, (1, 0)), ("set", 0, 1), ("ask", 0, (1, 0)), ("ask", 0, (0, 0)), ("ask", 0, (1, 1))]
        self.assertEqual(kept(plan, history, 0), (
            ((("c0", 0), ("f0", 1)), 1), ((("c0", 1), ("f1", 0)), 1), ((("c0", 1), ("f1", 1)), 0)))
        self.assertEqual([trace and trace[0][1] for trace in traced(plan, history)],
                         ["run", [], "run", "served", "run"])

    def test_reads_and_shown_of_a_recipe_without_names(self):
        for rule in ("reads", "shown", Key()):
            plan = Plan(2, 1, 0, ((Recipe.number(1), rule),))
            history = [ASK, ("ask", 0, (0,))]
            self.assertEqual(traced(plan, history), [[(0, "run", 1)], [(0, "served", 1)]])
            self.assertEqual(kept(plan, history, 0), (((), 1),))

    def test_shown_leaves_out_places(self):
        plan = Plan(2, 1, 1, ((DAY + 0, None), (FIRST + WHO, "shown"), (SECOND + FIRST, "shown")))
        history = [("ask", 2, (1,)), ("set", 0, 1), ("ask", 1, (1,)), ("ask", 2, (0,))]
        self.assertEqual(stock_after(plan, history), ((1,), ((), (((("f0", 1),), 1),), (((), 1),))))
        self.assertEqual(traced(plan, history), [
            [(0, "run", 0), (1, "run", 1), (0, "run", 0), (2, "run", 1)], [], [(1, "served", 1)], [(2, "served", 1)]])
        self.assertEqual(false_deeds(plan, history), [2, 3])

    def test_looking_at_rows_asks_again_and_stops_at_the_first_that_differs(self):
        plan = Plan(2, 1, 1, ((DAY + 0, None), (FIRST.then(WHO, DAY * FIRST), "reads")))
        history = [("ask", 1, (0,)), ("set", 0, 1), ("ask", 1, (1,)), ("ask", 1, (0,)), ("ask", 1, (0,))]
        self.assertEqual(kept(plan, history, 1), (
            ((("p0", 0), ("c0", 0)), 0), ((("p0", 1), ("f0", 1)), 1), ((("p0", 1), ("f0", 0)), 0)))
        # Each row asks for its first place once more; a run asks for it only once.
        self.assertEqual(traced(plan, history)[2:], [
            [(0, "run", 1), (0, "run", 1), (1, "run", 1)],
            [(0, "run", 1), (0, "run", 1), (0, "run", 1), (1, "run", 0)],
            [(0, "run", 1), (0, "run", 1), (0, "run", 1), (1, "served", 0)]])
        self.assertEqual(runs(plan, history), [9, 3])

    def test_a_mark_behind_one_that_differs_is_not_asked_for(self):
        plan = Plan(2, 1, 0, ((WHO + 0, None), (WHO * FIRST, "reads")))
        history = [("ask", 1, (0,)), ("ask", 1, (1,)), ("ask", 1, (1,))]
        self.assertEqual(traced(plan, history), [
            [(0, "run", 0), (1, "run", 0)], [(0, "run", 1), (1, "run", 1)], [(0, "run", 1), (1, "served", 1)]])

    def test_what_is_made_of_a_false_fragment_is_kept(self):
        # The first place serves what is not true any more; the second one is run with it, and keeps it.
        plan = Plan(2, 1, 1, ((DAY + 0, Key()), (FIRST + WHO, Key.of("f0"))))
        history = [("ask", 0, (0,)), ("set", 0, 1), ("ask", 1, (0,)), ("ask", 1, (0,))]
        self.assertEqual(traced(plan, history)[2:], [[(0, "served", 0), (1, "run", 0)], [(1, "served", 0)]])
        self.assertEqual(false_deeds(plan, history), [2, 3])

    def test_a_false_service_may_leave_the_answer_true(self):
        plan = Plan(2, 1, 1, ((DAY + 0, Key()), (FIRST * WHO, None)))
        history = [("ask", 0, (0,)), ("set", 0, 1), ("ask", 1, (0,)), ("ask", 1, (1,))]
        self.assertEqual(told(plan, history), [0, None, 0, 0])
        self.assertEqual(false_deeds(plan, history), [2, 3])

    def test_a_row_is_served_although_it_is_false_only_in_the_situation_of_the_ask(self):
        plan = Plan(2, 2, 0, ((WHO * PAGE, Key.of("f0")),))
        history = [("ask", 0, (1, 1)), ("ask", 0, (1, 0)), ("ask", 0, (1, 1)), ("ask", 0, (0, 0)), ("ask", 0, (0, 1))]
        self.assertEqual(told(plan, history), [1, 1, 1, 0, 0])
        self.assertEqual(false_deeds(plan, history), [1])


class SettingTest(unittest.TestCase):
    def test_drops_of_several_places_and_of_none(self):
        places = ((DAY + 0, "reads"), (HOUR + 0, Key()), (WHO + 0, "shown"))
        plan = Plan(3, 1, 2, places, drops=((0, 2), ()))
        asks = [("ask", place, (1,)) for place in range(3)]
        rows = stock_after(plan, asks)[1]
        self.assertEqual([len(row) for row in rows], [1, 1, 1])
        self.assertEqual(stock_after(plan, [*asks, ("set", 0, 2)]), ((2, 0), ((), rows[1], ())))
        self.assertEqual(stock_after(plan, [*asks, ("set", 1, 2)]), ((0, 2), rows))
        self.assertEqual(stock_after(plan, [*asks, ("set", 1, 1), ("set", 0, 1)]), ((1, 1), ((), rows[1], ())))

    def test_the_same_number_changes_nothing(self):
        plan = Plan(2, 1, 1, ((DAY + 0, Key()),), drops=((0,),))
        stock = stock_after(plan, [("set", 0, 1), ASK])
        self.assertEqual(stock, ((1,), ((((), 1),),)))
        self.assertEqual(after(plan, stock, ("set", 0, 1)), stock)
        self.assertEqual(after(plan, stock, ("set", 0, 0)), ((0,), ((),)))
        self.assertEqual(stock_after(plan, [ASK, ("set", 0, 0)]), ((0,), ((((), 0),),)))

    def test_rows_that_were_dropped_do_not_come_back(self):
        plan = Plan(2, 1, 1, ((DAY + 0, Key()),), drops=((0,),))
        history = [ASK, ("set", 0, 1), ("set", 0, 0), ASK, ("set", 0, 1), ASK]
        self.assertEqual([trace[0][1] for trace in traced(plan, history) if trace], ["run", "run", "run"])
        self.assertEqual(false_deeds(plan, history), [])

    def test_a_place_without_a_rule_can_be_dropped(self):
        plan = Plan(2, 1, 1, ((DAY + 0, None),), drops=((0,),))
        self.assertEqual(stock_after(plan, [ASK, ("set", 0, 1)]), ((1,), ((),)))


class StocksTest(unittest.TestCase):
    def test_first_stock(self):
        for shape in slow.SHAPES:
            plan = slow.any_plan(1, shape)
            want = ((0,) * plan.cells, ((),) * len(plan))
            self.assertEqual(first_stock(plan), want)
            self.assertEqual(stock_after(plan, []), want)
            self.assertEqual(first_stock(plan=plan), want)

    def test_after_by_steps_is_stock_after(self):
        stock = first_stock(PLAN)
        for at, deed in enumerate(HISTORY):
            stock = after(PLAN, stock, deed)
            self.assertEqual(stock, stock_after(PLAN, HISTORY[:at + 1]))
            self.assertEqual(stock, after(plan=PLAN, stock=stock_after(PLAN, HISTORY[:at]), deed=deed))
        self.assertIsInstance(stock, tuple)
        self.assertIsInstance(stock[1][0][0][0], tuple)

    def test_stocks_that_cannot_come_about(self):
        plan = Plan(2, 2, 1, ((PAGE * DAY, Key.of("f0", "f1")), (FIRST + WHO, "reads")))
        ask = ("ask", 0, (0, 1))
        right, turned = (("f0", 0), ("f1", 1)), (("f1", 1), ("f0", 0))
        # The first row with just these marks is served; marks in another order are others.
        for rows, number in ((((turned, 1), (right, 1), (right, 0)), 1), (((right, 0), (right, 1)), 0)):
            stock = ((0,), (rows, ()))
            self.assertEqual(after(plan, stock, ask), stock)
            self.assertEqual(after(plan, ((0,), (rows, ())), ("ask", 1, (0, 1)))[1],
                             (rows, (((("p0", number), ("f0", 0)), number),)))
        for rows in ((), ((turned, 1),), (((), 1),), (((("f0", 0),), 1),), (((*right, ("c0", 0)), 1),)):
            self.assertEqual(after(plan, ((0,), (rows, ())), ask), ((0,), ((*rows, (right, 0)), ())))

    def test_marks_that_no_run_makes_are_looked_at_in_their_order(self):
        plan = Plan(2, 1, 1, ((DAY + 0, "shown"), (FIRST + WHO, "shown")))
        for marks in ((("f0", 1), ("p0", 0)), (("p0", 0), ("f0", 1), ("p0", 0)), (("c0", 0),), (("f0", 1),) * 30, ()):
            stock = ((0,), ((), ((marks, 0),)))
            made = after(plan, stock, ("ask", 1, (1,)))
            self.assertEqual(made[1][1], ((marks, 0),))
            self.assertEqual(len(made[1][0]), int(any(name == "p0" for name, n in marks)))
        stock = ((0,), ((), (((("f0", 0), ("f0", 1)), 0),)))
        self.assertEqual(after(plan, stock, ("ask", 1, (1,)))[1][1], (*stock[1][1], ((("f0", 1),), 1)))

    def test_all_rows_of_the_right_kinds_are_taken(self):
        plan = Plan(3, 1, 1, ((WHO + 0, "reads"), (DAY + 0, None), (DAY + 0, Key.of("c0"))))
        for mark in [("f0", 2), ("c0", 0)]:
            after(plan, ((2,), ((((mark,), 2),), (), ())), ("set", 0, 0))
        for name in ("f0", "c0", "p0", "p1"):
            after(plan, ((2,), ((), (), ((((name, 0), (name, 1)), 2),))), ("set", 0, 0))

    def test_wrong_stocks(self):
        plan = Plan(2, 1, 1, ((WHO + 0, "reads"), (DAY + 0, None), (DAY + 0, Key.of("c0"))))
        row = ((("f0", 1),), 1)
        good = ((0,), ((row,), (), ()))
        self.assertEqual(after(plan, good, ("set", 0, 0)), good)
        rows = [None, (), (row,), (row[0],), (*row, 1), list(row), (row[0], 2), (row[0], -1), (row[0], True),
                (list(row[0]), 1), (("f0", 1), 1), ((("f0", 1, 1),), 1), ((["f0", 1],), 1), ((("f0",),), 1),
                ((("f0", 2),), 1), ((("f0", True),), 1), ((("f0", None),), 1), ((("f1", 1),), 1), ((("c1", 1),), 1),
                ((("p0", 1),), 1), ((("f0", 1), ("p2", 1)), 1), ((("", 1),), 1), ({"f0": 1}, 1), *ODD,
                *[(row[0], odd) for odd in ODD], *[(odd, 1) for odd in ODD if not isinstance(odd, tuple)],
                *[((odd,), 1) for odd in ODD], *[(((odd, 1),), 1) for odd in ODD], *[((("f0", odd),), 1) for odd in ODD]]
        wrong = [((0,), ((other,), (), ())) for other in rows] + [((0,), ((row, other), (), ())) for other in rows]
        wrong += [((0,), ((row,), (row,), ())), ((0,), ((row,), ())), ((0,), ((row,), (), (), ())), ((0,), ()),
                  ((0,), [(row,), (), ()]), ((0,), ([row], (), ())), ((0,), ((row,), [], ())), ((0,), ((row,), None, ())),
                  ((2,), good[1]), ((-1,), good[1]), ((True,), good[1]), ((), good[1]), ((0, 0), good[1]),
                  ([0], good[1]), (0, good[1]), (good[1], (0,)), (*good, ()), (good[0],), list(good), None, *NO_TUPLES]
        wrong += [(odd, good[1]) for odd in ODD] + [((0,), odd) for odd in ODD] + [((odd,), good[1]) for odd in ODD]
        wrong += [((0,), ((row,), odd, ())) for odd in ODD if not isinstance(odd, tuple)]
        for stock in wrong:
            for deed in (("set", 0, 0), None, Liar()):
                with self.assertRaises(BadStock):
                    after(plan, stock, deed)

    def test_names_that_a_key_for_the_place_cannot_have(self):
        plan = Plan(2, 1, 0, ((WHO + 0, "reads"), (FIRST + 0, "reads")))
        for place, name in ((0, "f1"), (0, "c0"), (0, "p0"), (1, "p1"), (1, "f2")):
            rows = [(), ()]
            rows[place] = ((((name, 0),), 0),)
            with self.assertRaises(BadStock):
                after(plan, ((), tuple(rows)), ASK)
        after(plan, ((), ((), (((("p0", 0),), 0),))), ASK)

    def test_wrong_deeds(self):
        stock = first_stock(PLAN)
        for deed in NO_DEEDS:
            with self.assertRaises(BadDeed):
                after(PLAN, stock, deed)
        bare = Plan(2, 1, 0, ((WHO, None),))
        with self.assertRaises(BadDeed):
            after(bare, first_stock(bare), ("set", 0, 0))

    def test_plan_before_stock_before_deed(self):
        for plan in NO_PLANS:
            for given in ((None, None), (first_stock(PLAN), HISTORY[0]), (Liar(), Liar())):
                with self.assertRaises(BadPlan) as caught:
                    after(plan, *given)
                self.assertIsNone(caught.exception.part)
            with self.assertRaises(BadPlan) as caught:
                first_stock(plan)
            self.assertIsNone(caught.exception.part)
        with self.assertRaises(BadStock):
            after(PLAN, ((2,), ((), ())), ("ask", 9, ()))


class HistoriesTest(unittest.TestCase):
    def test_the_history_of_the_document(self):
        self.assertEqual(told(PLAN, HISTORY), [0, None, 1, 1])
        self.assertEqual(traced(PLAN, HISTORY), [
            [(0, "run", 0), (1, "run", 0)], [], [(0, "run", 1), (0, "served", 1), (1, "run", 1)], [(1, "run", 1)]])
        self.assertEqual(runs(PLAN, HISTORY), [2, 3])
        self.assertEqual(false_deeds(PLAN, HISTORY), [])
        self.assertEqual(false_deeds(PLAN.ruled(1, "shown"), HISTORY), [2])

    def test_no_deeds(self):
        for history in ([], ()):
            self.assertEqual([told(PLAN, history), traced(PLAN, history), false_deeds(PLAN, history)], [[], [], []])
            self.assertEqual((runs(PLAN, history), stock_after(PLAN, history)), ([0, 0], first_stock(PLAN)))

    def test_tuples_are_as_good_as_lists(self):
        for call in OVER_HISTORIES:
            self.assertEqual(call(PLAN, tuple(HISTORY)), call(PLAN, HISTORY))
            self.assertEqual(call(plan=PLAN, history=HISTORY), call(PLAN, HISTORY))

    def test_against_a_slow_way(self):
        for seed in range(6):
            for shape in slow.SHAPES:
                self.check(slow.any_plan(seed, shape), random.Random(f"{seed} {shape}"))

    def check(self, plan, chance):
        history = [chance.choice(slow.deeds(plan)) for _ in range(60)]
        shop = slow.Shop(plan)
        traces, wrong = [], []
        for at, deed in enumerate(history):
            traces.append(shop.do(deed))
            if slow.is_false(plan, shop.stock(), deed, traces[-1]):
                wrong.append(at)
        self.assertEqual(traced(plan, history), traces)
        self.assertEqual(told(plan, history), [trace[-1][2] if trace else None for trace in traces])
        self.assertEqual(stock_after(plan, history), shop.stock())
        self.assertEqual(false_deeds(plan, history), wrong)
        ran = [at for trace in traces for at, way, n in trace if way == "run"]
        self.assertEqual(runs(plan, history), [ran.count(place) for place in range(len(plan))])

    def test_rules_of_all_kinds_come_about(self):
        # So that the plans of the test above try all of them.
        rules = [rule for seed in range(6) for shape in slow.SHAPES for recipe, rule in slow.any_plan(seed, shape).places]
        for rule in (None, "reads", "shown"):
            self.assertGreater(rules.count(rule), 20)
        keys = [rule for rule in rules if isinstance(rule, Key)]
        self.assertGreater(len(keys), 20)
        self.assertTrue(any("p0" in key for key in keys))

    def test_just_100_deeds_and_101(self):
        for kind in (list, tuple):
            history = kind([ASK, ("set", 0, 1)] * 50)
            plan = Plan(2, 1, 1, ((WHO + DAY, Key.of("f0")),))
            self.assertEqual(told(plan, history), [1, None] * 50)
            self.assertEqual(len(traced(plan, history)), 100)
            self.assertEqual(false_deeds(plan, history), list(range(2, 100, 2)))
            self.assertEqual(runs(plan, history), [1])
            for call in OVER_HISTORIES:
                for longer in (history + kind([ASK]), history * 20, history + kind([None]), kind([None]) * 101):
                    with self.assertRaises(BadHistory) as caught:
                        call(plan, longer)
                    self.assertIsNone(caught.exception.index)

    def test_no_list_or_tuple(self):
        for call in OVER_HISTORIES:
            for history in [None, 0, "ask", b"", {}, {0: ASK}, set(), iter([]), range(0), Key(), Liar(), Thrower(), object()]:
                with self.assertRaises(BadHistory) as caught:
                    call(PLAN, history)
                self.assertIsNone(caught.exception.index)

    def test_the_first_wrong_deed(self):
        for call in OVER_HISTORIES:
            for deed in NO_DEEDS:
                for at, history in enumerate([[deed], [*HISTORY[:1], deed], (*HISTORY[:2], deed, HISTORY[0], None)]):
                    with self.assertRaises(BadHistory) as caught:
                        call(PLAN, history)
                    self.assertEqual(caught.exception.index, at)
            with self.assertRaises(BadHistory) as caught:
                call(PLAN, HISTORY[:1] * 99 + [("set", 0, True)])
            self.assertEqual(caught.exception.index, 99)

    def test_plan_before_history(self):
        for call in OVER_HISTORIES:
            for plan in NO_PLANS:
                for history in ([], HISTORY, None, [None], [ASK] * 101, Liar()):
                    with self.assertRaises(BadPlan) as caught:
                        call(plan, history)
                    self.assertIsNone(caught.exception.part)

    def test_arguments_are_not_changed_and_lists_are_new(self):
        history = list(HISTORY)
        for call in (told, traced, false_deeds, runs):
            found = call(PLAN, history)
            self.assertIsInstance(found, list)
            found.append("more")
            self.assertEqual(call(PLAN, history), found[:-1])
        traced(PLAN, history)[0].clear()
        self.assertEqual(len(traced(PLAN, history)[0]), 2)
        self.assertEqual(history, HISTORY)

    def test_where_they_are_defined(self):
        for given in [first_stock, after, *OVER_HISTORIES]:
            self.assertEqual(given.__module__, "shortkeys.keeping")


if __name__ == "__main__":
    unittest.main()
