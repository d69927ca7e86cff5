import itertools
import random
import unittest

import slow
from odd import NO_TUPLES, ODD, Liar

from shortkeys.errors import BadKey, BadPlace, BadPlan, BadSituation
from shortkeys.keys import Key
from shortkeys.plans import Plan
from shortkeys.recipes import Recipe
from shortkeys.values import (
    Cores, Decided, Split, core_keys, cores, decide, does_decide, free_names, reads, value)

NAMES = slow.NAMES
WHO, PAGE, THIRD = [Recipe.field(k) for k in range(3)]
DAY, HOUR = Recipe.cell(0), Recipe.cell(1)
FIRST, SECOND = Recipe.place(0), Recipe.place(1)
PLAN = Plan(2, 2, 1, ((PAGE * DAY, None), (WHO.then(FIRST, PAGE), Key.of("f0", "f1"))))
HERE = ((1, 1), (1,))
PLANS = [slow.any_plan(seed, shape) for seed in range(2) for shape in slow.SHAPES]
NO_PLANS = [None, 0, "plan", (2, 1, 1), Plan, WHO, Key(), *ODD]
NO_PLACES = [2, 3, -1, None, "0", "p0", (0,), *ODD]
NO_SITUATIONS = [
    None, ((1, 1), (2,)), ((1, 2), (1,)), ((1, -1), (1,)), ((1,), (1,)), ((1, 1, 1), (1,)), ((1, 1), ()),
    ((1, 1), (1, 1)), ((1, 1),), ((1, 1), (1,), (1,)), [(1, 1), (1,)], ([1, 1], (1,)), ((1, 1), [1]), ((1, True), (1,)),
    ((1, 1), (True,)), ((1, None), (1,)), ((1, "1"), (1,)), (1, 1, 1), ((1, 1), 1), (11, (1,)), *NO_TUPLES,
    *[((1, 1), odd) for odd in ODD], *[((1, 1), (odd,)) for odd in ODD],
]
NO_KEYS = [None, "reads", "shown", "f0", ("f0",), ["f0"], Key, Key.of("f2"), Key.of("c1"), Key.of("p1"),
           Key.of("f0", "f1", "p1"), Key(NAMES), PLAN, *ODD]


class ValuesTest(unittest.TestCase):
    def refuse_plans(self, *calls):
        for plan in NO_PLANS:
            for call in calls:
                for place, last in ((0, None), (9, Liar()), (None, 7)):
                    with self.assertRaises(BadPlan) as caught:
                        call(plan, place, last)
                    self.assertIsNone(caught.exception.part)

    def refuse_places(self, *calls):
        for place in NO_PLACES:
            for call in calls:
                for last in (HERE, Key(), None, Liar()):
                    with self.assertRaises(BadPlace):
                        call(PLAN, place, last)


class NumbersTest(ValuesTest):
    def test_values_and_reads_by_hand(self):
        # The second place asks for its first field, and then for the first place or the second field.
        for situation in PLAN.situations():
            (who, page), (day,) = situation
            self.assertEqual(value(PLAN, 0, situation), page * day)
            self.assertEqual(reads(PLAN, 0, situation), ["f1", "c0"])
            self.assertEqual(value(PLAN, 1, situation), page * day if who else page)
            self.assertEqual(reads(PLAN, 1, situation), ["f0", "p0"] if who else ["f0", "f1"])

    def test_reads_are_in_the_order_of_asking_each_once(self):
        plan = Plan(3, 2, 1, ((DAY + PAGE * DAY + WHO + PAGE, None), (1 - FIRST, None),
                              (SECOND.then(FIRST, WHO) + SECOND, None), ), drops=((0,),))
        for situation in plan.situations():
            self.assertEqual(reads(plan, 0, situation), ["c0", "f1", "f0"])
            self.assertEqual(reads(plan, 1, situation), ["p0"])
            needed = "p0" if value(plan, 1, situation) else "f0"
            self.assertEqual(reads(plan, 2, situation), ["p1", needed])

    def test_a_recipe_without_names(self):
        plan = Plan(3, 1, 0, ((Recipe.number(2), None), (Recipe.number(1).then(0, WHO), "reads")))
        for situation in plan.situations():
            self.assertEqual([value(plan, place, situation) for place in (0, 1)], [2, 0])
            self.assertEqual([reads(plan, place, situation) for place in (0, 1)], [[], []])

    def test_rules_and_drops_change_no_values(self):
        for rule in (None, "reads", "shown", Key(), Key.of("p0")):
            for drops in (None, ((0, 1),)):
                plan = Plan(2, 2, 1, ((PLAN[0][0], "shown"), (PLAN[1][0], rule)), drops=drops)
                for place, situation in itertools.product((0, 1), plan.situations()):
                    self.assertEqual(value(plan, place, situation), value(PLAN, place, situation))
                    self.assertEqual(reads(plan, place, situation), reads(PLAN, place, situation))

    def test_against_a_slow_way(self):
        for plan in PLANS:
            self.assertEqual(plan.situations(), slow.situations(plan))
            for place, situation in itertools.product(range(len(plan)), plan.situations()):
                self.assertEqual(value(plan, place, situation), slow.worth(plan, place, situation))
                found = reads(plan, place, situation)
                self.assertIsInstance(found, list)
                self.assertEqual(found, slow.asked(plan, place, situation))

    def test_the_list_is_new(self):
        reads(PLAN, 0, HERE).append("p1")
        self.assertEqual(reads(PLAN, 0, HERE), ["f1", "c0"])

    def test_wrong_plans_and_places(self):
        self.refuse_plans(value, reads)
        self.refuse_places(value, reads)
        with self.assertRaises(BadPlace):
            value(PLAN, True, HERE)

    def test_wrong_situations(self):
        for call, place, situation in itertools.product((value, reads), (0, 1), NO_SITUATIONS):
            with self.assertRaises(BadSituation):
                call(PLAN, place, situation)
        for situation in (((0,), (0,)), ((3,), ()), ((0,), None)):
            with self.assertRaises(BadSituation):
                value(Plan(3, 1, 0, ((WHO, None),)), 0, situation)
        self.assertEqual(value(Plan(3, 1, 0, ((WHO, None),)), 0, ((2,), ())), 2)


class DecidingTest(ValuesTest):
    def test_tables_and_splits_against_a_slow_way(self):
        for plan in PLANS:
            for place in range(len(plan)):
                for names in slow.all_keys(slow.usable(plan, place)):
                    self.check(plan, place, Key(names))

    def check(self, plan, place, key):
        found, want = decide(plan, place, key), slow.table(plan, place, key.names)
        self.assertIs(does_decide(plan, place, key), want is not None)
        self.assertIs(found.shows(plan, place, key), True)
        if want is None:
            self.assertIs(type(found), Split)
            for situation in (found.one, found.other):
                self.assertIn(situation, plan.situations())
            self.assertEqual(*[slow.row_of(plan, at, key.names) for at in (found.one, found.other)])
            self.assertNotEqual(*[slow.worth(plan, place, at) for at in (found.one, found.other)])
        else:
            self.assertIs(type(found), Decided)
            self.assertEqual(list(found.table.items()), list(want.items()))

    def test_the_table_has_just_what_there_is_in_some_situation(self):
        plan = Plan(2, 1, 1, ((WHO * DAY, None), (WHO, None)))
        self.assertEqual(decide(plan, 1, Key.of("f0", "p0")).table, {(0, 0): 0, (1, 0): 1, (1, 1): 1})
        self.assertEqual(list(decide(plan, 1, Key.of("f0", "c0")).table), [(0, 0), (0, 1), (1, 0), (1, 1)])

    def test_the_empty_key(self):
        plan = Plan(2, 1, 0, ((WHO - WHO, None), (WHO, None)))
        self.assertEqual(decide(plan, 0, Key()), Decided({(): 0}))
        self.assertIs(does_decide(plan, 1, Key()), False)
        self.assertIs(decide(plan, 1, Key()).shows(plan, 1, Key()), True)
        self.assertEqual(decide(plan, 1, Key.of("f0", "p0")).table, {(0, 0): 0, (1, 0): 1})

    def test_wrong_plans_and_places(self):
        given = [decide, does_decide, Decided({}).shows, Split(HERE, HERE).shows]
        self.refuse_plans(*given)
        self.refuse_places(*given)

    def test_wrong_keys(self):
        for call in (decide, does_decide, Decided({}).shows, Split(HERE, HERE).shows):
            for key in NO_KEYS:
                for place in (0, 1):
                    with self.assertRaises(BadKey):
                        call(PLAN, place, key)
            with self.assertRaises(BadKey):
                call(PLAN, 0, Key.of("p0"))
            call(PLAN, 1, Key.of("p0"))


class DecidedTest(ValuesTest):
    def setUp(self):
        self.key = Key.of("f1", "c0")
        self.right = {(0, 0): 0, (0, 1): 0, (1, 0): 0, (1, 1): 1}

    def shows(self, table, place=0, key=None):
        return Decided(table).shows(PLAN, place, self.key if key is None else key)

    def test_as_returned_and_in_any_order(self):
        self.assertEqual(decide(PLAN, 0, self.key).table, self.right)
        for rows in itertools.permutations(self.right.items()):
            self.assertIs(self.shows(dict(rows)), True)

    def test_changed_a_little(self):
        for row in self.right:
            for n in (-1, 0, 1, 2, True, False, None, "0", (0,)):
                want = n == self.right[row] and not isinstance(n, bool)
                self.assertIs(self.shows({**self.right, row: n}), want)
            self.assertIs(self.shows({other: n for other, n in self.right.items() if other != row}), False)
        for row in [(), (0,), (0, 2), (2, 2), (-1, 0), (0, 0, 0), (1, 1, 1), "00", None, 0]:
            self.assertIs(self.shows({**self.right, row: 0}), False)
            self.assertIs(self.shows({**{other: 0 for other in list(self.right)[1:]}, row: 0}), False)
        self.assertIs(self.shows({}), False)

    def test_numbers_that_there_are_in_no_situation(self):
        plan, key = Plan(2, 1, 1, ((WHO * DAY, None), (WHO, None))), Key.of("f0", "p0")
        self.assertIs(Decided({(0, 0): 0, (1, 0): 1, (1, 1): 1}).shows(plan, 1, key), True)
        for table in ({(0, 0): 0, (1, 0): 1, (0, 1): 1}, {(0, 1): 0, (1, 0): 1, (1, 1): 1},
                      {(0, 0): 0, (0, 1): 0, (1, 0): 1, (1, 1): 1}):
            self.assertIs(Decided(table).shows(plan, 1, key), False)

    def test_booleans_are_no_integers(self):
        self.assertIs(self.shows({(False, 0): 0, (0, 1): 0, (1, 0): 0, (1, 1): 1}), False)
        self.assertIs(self.shows({(0, 0): 0, (0, 1): 0, (1, 0): 0, (1, True): 1}), False)

    def test_changed_by_hand(self):
        found = decide(PLAN, 0, self.key)
        found.table[(1, 1)] = 0
        self.assertIs(found.shows(PLAN, 0, self.key), False)
        found.table[(1, 1)] = 1
        self.assertIs(found.shows(PLAN, 0, self.key), True)
        for other in [None, 0, [], list(self.right.items()), (), "table", {}, *NO_TUPLES]:
            found.table = other
            self.assertIs(found.shows(PLAN, 0, self.key), False)

    def test_another_place_or_key(self):
        self.assertIs(self.shows(self.right, 1), False)
        self.assertIs(self.shows(self.right, 0, Key.of("f0", "c0")), False)
        self.assertIs(self.shows(self.right, 0, Key.of("f0", "f1")), False)
        self.assertIs(self.shows(self.right, 0, Key()), False)

    def test_a_key_that_does_not_decide_has_no_table(self):
        for numbers in itertools.product((0, 1), repeat=2):
            self.assertIs(self.shows({(0,): numbers[0], (1,): numbers[1]}, 0, Key.of("f1")), False)
        for n in (0, 1):
            self.assertIs(self.shows({(): n}, 0, Key()), False)

    def test_the_dict_is_copied(self):
        given = dict(self.right)
        found = Decided(given)
        given[(1, 1)] = 0
        self.assertEqual(found.table, self.right)
        found.table.clear()
        self.assertEqual(len(given), 4)
        self.assertIsNot(decide(PLAN, 0, self.key).table, decide(PLAN, 0, self.key).table)

    def test_equality(self):
        self.assertIs(Decided(self.right) == decide(PLAN, 0, self.key), True)
        self.assertIs(Decided(self.right) == Decided(dict(list(self.right.items())[::-1])), True)
        self.assertIs(Decided(self.right) != Decided(self.right), False)
        for other in (Decided({}), Decided({**self.right, (1, 1): 0}), Split(HERE, HERE), Cores([], []), Key(), PLAN):
            self.assertIs(Decided(self.right) == other, False)
            self.assertIs(Decided(self.right) != other, True)


class SplitTest(ValuesTest):
    def test_all_pairs_of_situations(self):
        for key in (Key(), Key.of("f0"), Key.of("f1"), Key.of("f0", "f1"), Key.of("f0", "c0"), Key.of("p0")):
            for one, other in itertools.product(PLAN.situations(), repeat=2):
                want = slow.row_of(PLAN, one, key.names) == slow.row_of(PLAN, other, key.names) and (
                    slow.worth(PLAN, 1, one) != slow.worth(PLAN, 1, other))
                self.assertIs(Split(one, other).shows(PLAN, 1, key), want)

    def test_what_is_no_situation(self):
        one, other = ((1, 1), (0,)), ((1, 1), (1,))
        self.assertIs(Split(one, other).shows(PLAN, 0, Key.of("f1")), True)
        for wrong in NO_SITUATIONS:
            for given in ((one, wrong), (wrong, one), (wrong, other), (other, wrong), (wrong, wrong)):
                self.assertIs(Split(*given).shows(PLAN, 0, Key.of("f1")), False)
        self.assertIs(Split(((1, True), (0,)), other).shows(PLAN, 0, Key.of("f1")), False)

    def test_changed_by_hand(self):
        found = decide(PLAN, 0, Key.of("f1"))
        self.assertIs(found.shows(PLAN, 0, Key.of("f1")), True)
        found.one, found.other = found.other, found.one
        self.assertIs(found.shows(PLAN, 0, Key.of("f1")), True)
        found.one = found.other
        self.assertIs(found.shows(PLAN, 0, Key.of("f1")), False)

    def test_equality(self):
        one, other = ((1, 1), (0,)), ((1, 1), (1,))
        self.assertIs(Split(one, other) == Split(((1, 1), (0,)), ((1, 1), (1,))), True)
        self.assertIs(Split(one, other) != Split(one, other), False)
        for wrong in (Split(other, one), Split(one, one), Split(other, other), Decided({}), Cores([], []), WHO):
            self.assertIs(Split(one, other) == wrong, False)
            self.assertIs(Split(one, other) != wrong, True)


class CoresTest(ValuesTest):
    def test_against_a_slow_way(self):
        for plan in PLANS:
            for place in range(len(plan)):
                self.check(plan, place)

    def check(self, plan, place):
        found = cores(plan, place)
        keys = slow.all_keys(slow.usable(plan, place))
        tables = {names: slow.table(plan, place, names) for names in keys}
        least = [names for names in keys if tables[names] is not None and not any(
            tables[fewer] is not None for fewer in slow.all_keys(names) if fewer != names)]
        self.assertEqual([key.names for key, table in found.rows], least)
        self.assertEqual([list(table.items()) for key, table in found.rows],
                         [list(tables[names].items()) for names in least])
        self.assertEqual([key.names for key in core_keys(plan, place)], least)
        free = [name for name in slow.usable(plan, place) if not any(name in names for names in least)]
        self.assertEqual(free_names(plan, place).names, tuple(free))
        for key, pair in found.splits:
            self.assertIsNone(tables[key.names])
            self.assertIs(Split(*pair).shows(plan, place, key), True)
        for names in keys:
            self.assertNotEqual(any(set(names) >= set(row) for row in least),
                                any(set(names) <= set(key.names) for key, pair in found.splits))
        self.assertIs(found.shows(plan, place), True)

    def test_kinds(self):
        found = cores(PLAN, 1)
        self.assertIs(type(found), Cores)
        self.assertIsInstance(found.rows, list)
        self.assertIsInstance(found.splits, list)
        for row in found.rows + found.splits:
            self.assertIsInstance(row, tuple)
            self.assertEqual((len(row), type(row[0])), (2, Key))
        for key, pair in found.splits:
            self.assertIsInstance(pair, tuple)
            self.assertEqual(len(pair), 2)
        self.assertIsInstance(core_keys(PLAN, 1), list)
        self.assertIs(type(free_names(PLAN, 1)), Key)

    def test_by_hand(self):
        self.assertEqual([key.names for key in core_keys(PLAN, 1)], [("f0", "f1", "c0"), ("f0", "f1", "p0")])
        self.assertEqual(free_names(PLAN, 1), Key())
        self.assertEqual([key.names for key in core_keys(PLAN, 0)], [("f1", "c0")])
        self.assertEqual(free_names(PLAN, 0), Key.of("f0"))

    def test_the_keys_are_in_the_order_of_names(self):
        # A field comes before a cell, although its letter does not.
        plan = Plan(2, 1, 1, ((WHO, None), (DAY, None), (FIRST * SECOND, None)))
        self.assertEqual([key.names for key in core_keys(plan, 2)],
                         [("f0", "c0"), ("f0", "p1"), ("c0", "p0"), ("p0", "p1")])
        plan = Plan(2, 1, 1, ((WHO * DAY, None), (FIRST + 0, None)))
        self.assertEqual([key.names for key in core_keys(plan, 1)], [("p0",), ("f0", "c0")])

    def test_a_constant_place(self):
        plan = Plan(2, 3, 2, ((WHO - WHO, None), (FIRST, None)))
        for place in (0, 1):
            found = cores(plan, place)
            self.assertEqual((found.rows, found.splits), ([(Key(), {(): 0})], []))
            self.assertEqual(free_names(plan, place), plan.usable(place))
            self.assertIs(found.shows(plan, place), True)

    def test_wrong_plans_and_places(self):
        for call in (cores, core_keys, free_names, Cores([], []).shows):
            for plan in NO_PLANS:
                for place in (0, 7, None):
                    with self.assertRaises(BadPlan) as caught:
                        call(plan, place)
                    self.assertIsNone(caught.exception.part)
            for place in NO_PLACES:
                with self.assertRaises(BadPlace):
                    call(PLAN, place)

    def test_equality(self):
        self.assertIs(cores(PLAN, 1) == cores(PLAN, 1), True)
        self.assertIs(cores(PLAN, 1) != cores(PLAN, 1), False)
        found = cores(PLAN, 1)
        others = [cores(PLAN, 0), Cores(found.rows[::-1], found.splits), Cores(found.rows[1:], found.splits),
                  Cores(found.rows, found.splits[1:]), Cores(found.rows, []), Cores([], found.splits), Decided({}), PLAN]
        for other in others:
            self.assertIs(found == other, False)
            self.assertIs(found != other, True)

    def test_lists_and_dicts_are_new_and_copied(self):
        rows, splits = cores(PLAN, 1).rows, cores(PLAN, 1).splits
        made = Cores(rows, splits)
        table = dict(rows[0][1])
        rows[0][1].clear()
        rows.pop()
        splits.clear()
        self.assertEqual(made.rows[0][1], table)
        self.assertEqual((len(made.rows), made.splits), (2, cores(PLAN, 1).splits))
        made.rows.clear()
        self.assertEqual(len(cores(PLAN, 1).rows), 2)
        core_keys(PLAN, 1).clear()
        self.assertEqual(len(core_keys(PLAN, 1)), 2)


class CoresShowsTest(ValuesTest):
    def setUp(self):
        found = cores(PLAN, 1)
        self.rows, self.splits = found.rows, found.splits

    def shows(self, rows, splits, place=1):
        made = Cores([], [])
        made.rows, made.splits = rows, splits
        return made.shows(PLAN, place)

    def test_in_any_order(self):
        for rows in itertools.permutations(self.rows):
            for splits in itertools.permutations(self.splits):
                self.assertIs(Cores(list(rows), list(splits)).shows(PLAN, 1), True)
        turned = [(key, dict(list(table.items())[::-1])) for key, table in self.rows]
        self.assertIs(self.shows(turned, self.splits), True)
        self.assertIs(self.shows(self.rows, self.splits, 0), False)

    def test_rows_changed_a_little(self):
        one, other = self.rows
        wrong = [[], [one], [other], [one, one], [one, other, one], [one, other, other],
                 [one, (one[0], other[1])], [one, other, (Key(), {})], [(other[0], one[1]), (one[0], other[1])],
                 [one, (Key.of("f0", "f1", "c0", "p0"), decide(PLAN, 1, PLAN.usable(1)).table)],
                 [one, other, (PLAN.usable(1), decide(PLAN, 1, PLAN.usable(1)).table)]]
        for key, table in self.rows:
            left = [row for row in self.rows if row[0] != key]
            for row in table:
                wrong.append([*left, (key, {**table, row: 1 - table[row]})])
                wrong.append([*left, (key, {**table, row: bool(table[row])})])
                wrong.append([*left, (key, {at: n for at, n in table.items() if at != row})])
            wrong.append([*left, (key, {**table, (0, 0, 2): 0})])
            wrong.append([*left, (key, {})])
        for rows in wrong:
            self.assertIs(self.shows(rows, self.splits), False)

    def test_splits_changed_a_little(self):
        for at, (key, pair) in enumerate(self.splits):
            left = self.splits[:at] + self.splits[at + 1:]
            self.assertIs(self.shows(self.rows, left), False)
            self.assertIs(self.shows(self.rows, [*left, (key, pair[::-1])]), True)
            for wrong in ((pair[0], pair[0]), (pair[0],), pair[0], (*pair, pair[0]), list(pair), None,
                          *[(pair[0], situation) for situation in NO_SITUATIONS]):
                self.assertIs(self.shows(self.rows, [*left, (key, wrong)]), False)
            for other in (PLAN.usable(1), *[row[0] for row in self.rows]):
                self.assertIs(self.shows(self.rows, [*self.splits, (other, pair)]), False)

    def test_more_splits_than_are_needed(self):
        key, pair = self.splits[0]
        self.assertIs(self.shows(self.rows, [*self.splits, self.splits[0]]), True)
        for names in slow.all_keys(key.names):
            self.assertIs(self.shows(self.rows, [*self.splits, (Key(names), pair)]), True)
            if names != key.names:
                self.assertIs(self.shows(self.rows, [(Key(names), pair), *self.splits[1:]]), False)

    def test_keys_that_are_not_for_the_place(self):
        pair = self.splits[0][1]
        for key in NO_KEYS:
            self.assertIs(self.shows(self.rows, [*self.splits, (key, pair)]), False)
            self.assertIs(self.shows([*self.rows, (key, {})], self.splits), False)
            self.assertIs(self.shows([self.rows[0], (key, self.rows[1][1])], self.splits), False)

    def test_other_kinds(self):
        for wrong in [None, 0, "rows", {}, {0: 1}, *ODD]:
            self.assertIs(self.shows(wrong, self.splits), False)
            self.assertIs(self.shows(self.rows, wrong), False)
            self.assertIs(self.shows([*self.rows, wrong], self.splits), False)
            self.assertIs(self.shows(self.rows, [*self.splits, wrong]), False)
        self.assertIs(self.shows(tuple(self.rows), self.splits), False)
        self.assertIs(self.shows(self.rows, tuple(self.splits)), False)

    def test_any_splits_that_are_enough(self):
        chance = random.Random(5)
        for plan in PLANS:
            place = len(plan) - 1
            found = cores(plan, place)
            known = slow.facts(plan, place)
            for at, (key, pair) in enumerate(found.splits):
                others = [(one, other) for one, n, told in known for other, m, worth in known
                          if told != worth and all(n[name] == m[name] for name in key.names)]
                self.assertIn(pair, others)
                found.splits[at] = (key, chance.choice(others))
            self.assertIs(found.shows(plan, place), True)


class DefinitionsTest(unittest.TestCase):
    def test_where_they_are_defined(self):
        for given in (value, reads, decide, does_decide, cores, core_keys, free_names, Decided, Split, Cores):
            self.assertEqual(given.__module__, "shortkeys.values")
        for given in (Decided, Split, Cores):
            for name in ("__init__", "shows", "__eq__"):
                self.assertIn(name, vars(given))

    def test_by_keyword(self):
        self.assertEqual(value(plan=PLAN, place=0, situation=HERE), 1)
        self.assertEqual(reads(plan=PLAN, place=0, situation=HERE), ["f1", "c0"])
        self.assertIs(does_decide(plan=PLAN, place=0, key=Key()), False)
        self.assertIs(decide(plan=PLAN, place=0, key=Key()).shows(plan=PLAN, place=0, key=Key()), True)
        self.assertIs(cores(plan=PLAN, place=0).shows(plan=PLAN, place=0), True)
        self.assertEqual(core_keys(plan=PLAN, place=0), [Key.of("f1", "c0")])
        self.assertEqual(free_names(plan=PLAN, place=0), Key.of("f0"))
        self.assertEqual(Decided(table={}), Decided({}))
        self.assertEqual(Split(one=HERE, other=HERE), Split(HERE, HERE))
        self.assertEqual(Cores(rows=[], splits=[]), Cores([], []))

    def test_each_call_returns_new_objects(self):
        for make in (lambda: cores(PLAN, 0), lambda: decide(PLAN, 0, Key()), lambda: decide(PLAN, 0, PLAN.usable(0))):
            self.assertIsNot(make(), make())


if __name__ == "__main__":
    unittest.main()
