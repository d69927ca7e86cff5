import itertools
import random
import unittest

import slow
from odd import NO_INTEGERS, NO_TUPLES, ODD, Liar, Thrower

from shortkeys.errors import BadDeed, BadHistory, BadNumber, BadPlace, BadPlan, NothingDone
from shortkeys.houses import House
from shortkeys.keeping import first_stock, runs, stock_after, told
from shortkeys.keys import Key
from shortkeys.plans import Plan
from shortkeys.recipes import Recipe

WHO, PAGE = Recipe.field(0), Recipe.field(1)
DAY, HOUR = Recipe.cell(0), Recipe.cell(1)
FIRST, SECOND = Recipe.place(0), Recipe.place(1)
SHORT = Plan(2, 1, 1, ((WHO + DAY, Key.of("f0")),))
PLAN = Plan(3, 2, 2, ((PAGE * DAY, Key.of("f1")), (WHO.then(FIRST, HOUR), "reads"), (FIRST + SECOND, "shown")),
            drops=((0,), (1, 2)))
CLOSED = Plan(2, 1, 0, ((WHO, None),))
DEEDS = [("ask", 2, (1, 2)), ("set", 0, 1), ("ask", 1, (1, 2)), ("ask", 1, (0, 2)), ("set", 1, 2), ("set", 1, 2),
         ("ask", 2, (1, 2)), ("set", 0, 0), ("ask", 0, (0, 0))]
NO_PLANS = [None, 0, "plan", (2, 1, 1), Plan, WHO, Key(), House(SHORT), *ODD]
NO_DEEDS = [None, (), ("set", 0, 3), ("set", 0, True), ("set", False, 1), ("set", 2, 0), ["set", 0, 1], ("set", 0),
            ("set", 0, 1, 1), ("ask", 3, (1, 1)), ("ask", True, (1, 1)), ("ask", 1, (1,)), ("ask", 1, (1, True)),
            ("ask", 1, [1, 1]), ("ask", 1, (1, 3)), ("asks", 1, (1, 1)), ("ask", 1), (b"set", 0, 1), *ODD]
NO_FIELDS = [None, 0, (), (1,), (1, 1, 1), [1, 1], (1, 3), (-1, 1), (1, True), (False, 0), ("1", "1"), (None, None), "11",
             (1, (1,)), *NO_TUPLES, *[(1, odd) for odd in NO_INTEGERS]]


class Broken(Exception):
    """What goes wrong in a trial."""


def seen(house):
    """All that a house tells."""
    cells = [house[cell] for cell in range(house.plan.cells)]
    return (house.plan, house.stock(), house.journal(), house.bill(), len(house), cells)


def bill(plan, deeds):
    """The bill of some deeds, by the slow way."""
    shop = slow.Shop(plan)
    ways = [(place, way) for deed in deeds for place, way, number in shop.do(deed)]
    return {place: (ways.count((place, "run")), ways.count((place, "served"))) for place in range(len(plan))}


def some_house(plan=PLAN, deeds=DEEDS):
    house = House(plan)
    house.do(*deeds)
    return house


class HouseTest(unittest.TestCase):
    def assertHouse(self, house, plan, deeds):
        """The house is as after these deeds."""
        shop = slow.Shop(plan)
        given = [slow.gives(shop.do(deed)) for deed in deeds]
        self.assertEqual(house.plan, plan)
        self.assertEqual(house.stock(), shop.stock())
        self.assertEqual(house.journal(), list(zip(deeds, given)))
        self.assertEqual(len(house), len(deeds))
        self.assertEqual(list(house.bill().items()), list(bill(plan, deeds).items()))
        self.assertEqual([house[cell] for cell in range(plan.cells)], shop.cells)

    def refused(self, error, house, call):
        """Check that a call is refused, and changes nothing."""
        before = seen(house)
        with self.assertRaises(error) as caught:
            call()
        self.assertEqual(seen(house), before)
        return caught.exception


class DeedsTest(HouseTest):
    def test_at_first(self):
        for plan in (SHORT, PLAN, CLOSED):
            self.assertHouse(House(plan), plan, [])
            self.assertEqual(House(plan).stock(), first_stock(plan))
            self.assertEqual(list(House(plan).bill().values()), [(0, 0)] * len(plan))
        self.assertIs(type(House(PLAN).journal()), list)

    def test_by_hand(self):
        house = House(SHORT)
        self.assertEqual(house(0, (1,)), 1)
        self.assertEqual(house.do(("set", 0, 1), ("ask", 0, (1,)), ("ask", 0, (0,))), [None, 1, 1])
        self.assertEqual((house.bill(), house[0]), ({0: (2, 1)}, 1))
        self.assertEqual(house.stock(), ((1,), ((((("f0", 1),), 1), ((("f0", 0),), 1)),)))
        self.assertEqual(house.journal(), [(("ask", 0, (1,)), 1), (("set", 0, 1), None), (("ask", 0, (1,)), 1),
                                           (("ask", 0, (0,)), 1)])

    def test_asks(self):
        house = House(PLAN)
        for at, (place, fields) in enumerate(itertools.product((2, 0, 1, 2), itertools.product(range(3), repeat=2))):
            deeds = [deed for deed, number in house.journal()] + [("ask", place, fields)]
            self.assertEqual(house(place, fields), told(PLAN, deeds)[-1])
            self.assertEqual(len(house), at + 1)
            self.assertHouse(house, PLAN, deeds)

    def test_a_cell_is_set(self):
        house = House(PLAN)
        house(0, (1, 1))
        house[0] = 2
        self.assertEqual((house[0], house[1], house.stock()[1][0]), (2, 0, ()))
        house[1] = 1
        self.assertEqual((house[0], house[1]), (2, 1))
        self.assertEqual(house.journal()[1:], [(("set", 0, 2), None), (("set", 1, 1), None)])
        self.assertHouse(house, PLAN, [("ask", 0, (1, 1)), ("set", 0, 2), ("set", 1, 1)])

    def test_a_cell_is_set_to_the_number_that_it_has(self):
        house = House(PLAN)
        house(0, (1, 1))
        before = house.stock()
        house[0] = 0
        # Nothing is dropped, but the deed is in the journal and can be undone.
        self.assertEqual((house.stock(), len(house), house.journal()[-1]), (before, 2, (("set", 0, 0), None)))
        self.assertEqual(house.undo(), (("set", 0, 0), None))
        self.assertEqual((house.stock(), len(house)), (before, 1))

    def test_many_deeds_at_once(self):
        house = House(PLAN)
        self.assertEqual(house.do(), [])
        self.assertEqual(house.do(*DEEDS), told(PLAN, DEEDS))
        self.assertHouse(house, PLAN, DEEDS)
        self.assertEqual(house.do(*DEEDS * 30), [slow.gives(trace) for trace in self.traces(DEEDS * 31)[9:]])
        self.assertHouse(house, PLAN, DEEDS * 31)

    def traces(self, deeds):
        shop = slow.Shop(PLAN)
        return [shop.do(deed) for deed in deeds]

    def test_the_bill(self):
        house = some_house()
        self.assertEqual([ran for ran, served in house.bill().values()], runs(PLAN, DEEDS))
        self.assertEqual(list(house.bill()), [0, 1, 2])
        self.assertHouse(house, PLAN, DEEDS)

    def test_wrong_plans(self):
        for plan in NO_PLANS:
            with self.assertRaises(BadPlan) as caught:
                House(plan)
            self.assertIsNone(caught.exception.part)

    def test_wrong_cells(self):
        for house, many in ((some_house(), 2), (House(SHORT), 1), (House(CLOSED), 0)):
            for cell in [many, many + 1, -1, -2, 10 ** 30, slice(0, 1), (0,), *NO_INTEGERS]:
                self.refused(BadNumber, house, lambda: house[cell])
                for number in (0, 1, None, 9, Liar()):
                    self.refused(BadNumber, house, lambda: house.__setitem__(cell, number))

    def test_wrong_numbers(self):
        for house, base in ((some_house(), 3), (House(SHORT), 2)):
            for number in [base, base + 1, -1, 10 ** 30, (0,), *NO_INTEGERS]:
                self.refused(BadNumber, house, lambda: house.__setitem__(0, number))

    def test_wrong_asks(self):
        house = some_house()
        for place in [3, 4, -1, "p0", (0,), slice(0, 1), *NO_INTEGERS]:
            for fields in ((1, 1), (1,), None, Thrower()):
                self.refused(BadPlace, house, lambda: house(place, fields))
        for place, fields in itertools.product(range(3), NO_FIELDS):
            self.refused(BadDeed, house, lambda: house(place, fields))

    def test_wrong_deeds(self):
        for house in (House(PLAN), some_house()):
            for deed in NO_DEEDS:
                self.assertEqual(self.refused(BadHistory, house, lambda: house.do(deed)).index, 0)
                self.assertEqual(self.refused(BadHistory, house, lambda: house.do(DEEDS[0], deed)).index, 1)
                for more in ((), NO_DEEDS[:3], DEEDS):
                    self.assertEqual(self.refused(BadHistory, house, lambda: house.do(*DEEDS, deed, *more)).index, 9)
        self.assertEqual(self.refused(BadHistory, house, lambda: house.do(*DEEDS * 20, None)).index, 180)
        self.assertEqual(self.refused(BadHistory, house, lambda: house.do(DEEDS)).index, 0)

    def test_iteration(self):
        for house in (House(SHORT), some_house(), House(CLOSED)):
            for call in (list, tuple, iter, sorted, dict):
                with self.assertRaises(TypeError):
                    call(house)
            with self.assertRaises(TypeError):
                for number in house:
                    self.fail(number)

    def test_lists_and_dicts_are_new(self):
        house = some_house()
        before = seen(house)
        house.journal().clear()
        house.bill().clear()
        house.bill()[0] = None
        house.do().append(None)
        house.journal().append(house.journal()[0])
        self.assertEqual(seen(house), before)
        self.assertIsNot(house.journal(), house.journal())
        self.assertIsNot(house.bill(), house.bill())
        held = house.journal()
        house.undo()
        self.assertEqual(held, before[2])

    def test_the_plan(self):
        self.assertEqual((House(PLAN).plan, House(SHORT).plan), (PLAN, SHORT))
        with self.assertRaises(AttributeError):
            House(PLAN).plan = SHORT


class UndoTest(HouseTest):
    def test_all_deeds_and_one_more(self):
        house = some_house()
        for many in range(len(DEEDS) - 1, -1, -1):
            self.assertEqual(house.undo(), (DEEDS[many], told(PLAN, DEEDS)[many]))
            self.assertHouse(house, PLAN, DEEDS[:many])
        for time in range(2):
            self.refused(NothingDone, house, house.undo)
        self.assertHouse(house, PLAN, [])
        house.do(*DEEDS)
        self.assertHouse(house, PLAN, DEEDS)

    def test_a_new_house(self):
        house = House(SHORT)
        self.refused(NothingDone, house, house.undo)
        self.assertEqual(house(0, (1,)), 1)
        house.undo()
        self.refused(NothingDone, house, house.undo)

    def test_what_was_dropped_comes_back(self):
        house = House(PLAN)
        house(0, (1, 1))
        house[0] = 1
        self.assertEqual(house.stock()[1][0], ())
        house.undo()
        self.assertEqual(house.stock()[1][0], ((((("f1", 1),)), 0),))
        house(0, (0, 1))
        self.assertEqual(house.bill()[0], (1, 1))


class BranchTest(HouseTest):
    def test_it_is_the_same_and_independent(self):
        house = some_house()
        other = house.branch()
        self.assertIs(type(other), House)
        self.assertIsNot(other, house)
        self.assertEqual(seen(other), seen(house))
        before = seen(house)
        other.do(*DEEDS)
        other[1] = 0
        other(2, (0, 0))
        self.assertEqual(seen(house), before)
        self.assertHouse(other, PLAN, [*DEEDS, *DEEDS, ("set", 1, 0), ("ask", 2, (0, 0))])
        before = seen(other)
        house.undo()
        house(0, (2, 2))
        self.assertEqual(seen(other), before)
        while len(other):
            other.undo()
        self.assertHouse(other, PLAN, [])
        self.assertHouse(house, PLAN, [*DEEDS[:-1], ("ask", 0, (2, 2))])

    def test_of_a_new_house(self):
        other = House(SHORT).branch()
        self.assertHouse(other, SHORT, [])
        self.refused(NothingDone, other, other.undo)

    def test_made_in_a_trial(self):
        house = some_house()

        def work(inner):
            inner(1, (2, 2))
            return inner.branch()

        other = house.attempt(work)
        self.assertHouse(house, PLAN, DEEDS)
        deeds = [*DEEDS, ("ask", 1, (2, 2))]
        # All its deeds can be taken back, also those before the trial, and also while the trial goes on.
        for many in range(len(deeds), 0, -1):
            self.assertHouse(other, PLAN, deeds[:many])
            other.undo()
        self.refused(NothingDone, other, other.undo)
        self.assertHouse(house, PLAN, DEEDS)

    def test_undone_within_a_trial(self):
        house = some_house()

        def work(inner):
            other = inner.branch()
            for many in range(len(DEEDS)):
                other.undo()
            self.assertHouse(other, PLAN, [])
            self.refused(NothingDone, other, other.undo)
            self.refused(NothingDone, inner, inner.undo)
            other(0, (1, 1))
            self.assertHouse(inner, PLAN, DEEDS)
            return other

        self.assertHouse(house.attempt(work), PLAN, [("ask", 0, (1, 1))])
        self.assertHouse(house, PLAN, DEEDS)

    def test_trials_of_a_branch_are_its_own(self):
        house = some_house()
        other = house.branch()

        def work(inner):
            inner(0, (1, 1))
            # The first house is in no trial: also what it did before can be undone there.
            house(1, (1, 1))
            house.undo()
            house.undo()

        other.attempt(work)
        self.assertHouse(other, PLAN, DEEDS)
        self.assertHouse(house, PLAN, DEEDS[:-1])


class TrialTest(HouseTest):
    def test_left_by_a_return(self):
        house = some_house()

        def work(inner):
            self.assertIs(inner, house)
            inner(2, (2, 2))
            inner[0] = 2
            inner.do(*DEEDS)
            self.assertHouse(inner, PLAN, [*DEEDS, ("ask", 2, (2, 2)), ("set", 0, 2), *DEEDS])
            return [len(inner), inner.stock()]

        found = house.attempt(work)
        self.assertEqual(found[0], 20)
        self.assertNotEqual(found[1], house.stock())
        self.assertHouse(house, PLAN, DEEDS)
        self.assertEqual(house.undo(), (DEEDS[-1], 0))

    def test_what_it_returns(self):
        house = some_house()
        mark = object()
        for given in (None, 0, mark, house, [], False):
            self.assertIs(house.attempt(lambda inner: given), given)
        self.assertEqual(house.attempt(House.stock), house.stock())
        self.assertEqual(house.attempt(len), 9)
        self.assertEqual(house.attempt(lambda inner: inner(0, (1, 1))), 0)
        self.assertHouse(house, PLAN, DEEDS)

    def test_left_by_an_error(self):
        house = some_house()
        for error in (Broken("why"), BadNumber("why"), KeyError("why"), KeyboardInterrupt(), StopIteration(), SystemExit()):
            def work(inner):
                inner[0] = 2
                inner(1, (0, 0))
                raise error

            with self.assertRaises(type(error)) as caught:
                house.attempt(work)
            self.assertIs(caught.exception, error)
            self.assertHouse(house, PLAN, DEEDS)
        house.undo()
        self.assertHouse(house, PLAN, DEEDS[:-1])

    def test_left_by_an_error_of_the_house(self):
        house = some_house()
        for error, call in ((BadNumber, lambda inner: inner[2]), (BadPlace, lambda inner: inner(3, (0, 0))),
                            (BadDeed, lambda inner: inner(0, 0)), (BadHistory, lambda inner: inner.do(None)),
                            (NothingDone, House.undo)):
            self.refused(error, house, lambda: house.attempt(call))

            def work(inner):
                inner[0] = 2
                inner(1, (0, 0))
                inner.undo()
                inner.undo()
                return call(inner)

            self.refused(error, house, lambda: house.attempt(work))
        house.undo()
        self.assertHouse(house, PLAN, DEEDS[:-1])

    def test_only_its_own_deeds_can_be_undone(self):
        house = some_house()

        def work(inner):
            self.refused(NothingDone, inner, inner.undo)
            inner(0, (2, 2))
            inner[1] = 1
            self.assertEqual(inner.undo(), (("set", 1, 1), None))
            self.assertEqual(inner.undo()[0], ("ask", 0, (2, 2)))
            self.assertHouse(inner, PLAN, DEEDS)
            self.refused(NothingDone, inner, inner.undo)
            inner[1] = 0
            self.assertEqual(inner.undo(), (("set", 1, 0), None))
            self.refused(NothingDone, inner, inner.undo)

        house.attempt(work)
        self.assertHouse(house, PLAN, DEEDS)
        for many in range(len(DEEDS)):
            house.undo()
        self.refused(NothingDone, house, house.undo)

    def test_a_trial_within_a_trial_within_a_trial(self):
        house = some_house()
        deeds = [("ask", 1, (2, 1)), ("set", 1, 1), ("ask", 2, (0, 1)), ("set", 0, 2)]

        def third(inner):
            self.refused(NothingDone, inner, inner.undo)
            inner.do(*deeds[2:])
            self.assertHouse(inner, PLAN, DEEDS + deeds)
            inner.undo()
            self.assertHouse(inner, PLAN, DEEDS + deeds[:3])
            raise Broken("in the third one")

        def second(inner):
            self.refused(NothingDone, inner, inner.undo)
            inner.do(deeds[1])
            try:
                inner.attempt(third)
            finally:
                self.assertHouse(inner, PLAN, DEEDS + deeds[:2])
                self.assertEqual(inner.undo()[0], deeds[1])
                self.refused(NothingDone, inner, inner.undo)

        def first(inner):
            inner.do(deeds[0])
            with self.assertRaises(Broken):
                inner.attempt(second)
            self.assertHouse(inner, PLAN, DEEDS + deeds[:1])
            inner.do(deeds[2])
            self.assertHouse(inner, PLAN, [*DEEDS, deeds[0], deeds[2]])
            return inner.attempt(lambda deep: deep.attempt(lambda deeper: [deeper(0, (0, 1)), len(deeper)]))

        self.assertEqual(house.attempt(first), [0, 12])
        self.assertHouse(house, PLAN, DEEDS)

    def test_an_error_that_leaves_all_of_them(self):
        house = some_house()
        error = Broken("through all")

        def deep(many):
            def work(inner):
                inner[1] = many % 3
                inner(2, (many % 3, 0))
                if many == 5:
                    raise error
                inner.attempt(deep(many + 1))
            return work

        with self.assertRaises(Broken) as caught:
            house.attempt(deep(0))
        self.assertIs(caught.exception, error)
        self.assertHouse(house, PLAN, DEEDS)
        self.assertEqual(house.undo()[0], DEEDS[-1])

    def test_two_trials_one_after_the_other(self):
        house = House(SHORT)
        for time in range(3):
            house(0, (1,))
            self.assertEqual(house.attempt(lambda inner: (inner.do(("set", 0, 1), ("ask", 0, (0,))), inner.bill())),
                             ([None, 1], {0: (2, time)}))
        self.assertHouse(house, SHORT, [("ask", 0, (1,))] * 3)

    def test_lists_from_within_stay(self):
        house = some_house()
        journal, found = house.attempt(lambda inner: (inner.journal(), inner.bill()))
        house.undo()
        self.assertEqual((len(journal), found), (9, bill(PLAN, DEEDS)))


class AllTest(HouseTest):
    def test_any_calls_in_any_order(self):
        for seed in range(60):
            chance = random.Random(seed)
            plan = slow.any_plan(seed, chance.choice(slow.SHAPES))
            house, deeds = House(plan), []
            self.play(chance, house, deeds, 0, 12)
            self.assertHouse(house, plan, deeds)

    def play(self, chance, house, deeds, floor, many):
        """Do this and that to a house, and the same to the list of its deeds; floor of them cannot be undone."""
        plan = house.plan
        for time in range(many):
            call = chance.choice(("do", "do", "one", "undo", "trial", "branch", "wrong"))
            row = [chance.choice(slow.deeds(plan)) for deed in range(chance.randint(0, 4))]
            if call == "do":
                house.do(*row)
                deeds.extend(row)
            elif call == "one":
                self.one(house, deeds, chance.choice(slow.deeds(plan)))
            elif call == "undo" and len(deeds) > floor:
                self.assertEqual(house.undo()[0], deeds.pop())
            elif call == "undo":
                self.refused(NothingDone, house, house.undo)
            elif call == "trial" and many > 3:
                self.trial(chance, house, deeds, many // 2)
            elif call == "branch":
                self.play(chance, house.branch(), list(deeds), 0, many // 3)
            else:
                self.assertEqual(self.refused(BadHistory, house, lambda: house.do(*row, None)).index, len(row))
            self.assertHouse(house, plan, deeds)

    def one(self, house, deeds, deed):
        if deed[0] == "set":
            house[deed[1]] = deed[2]
        else:
            house(deed[1], deed[2])
        deeds.append(deed)

    def trial(self, chance, house, deeds, many):
        fails = chance.random() < 0.5

        def work(inner):
            self.play(chance, inner, list(deeds), len(deeds), many)
            if fails:
                raise Broken("at its end")
            return many

        if fails:
            with self.assertRaises(Broken):
                house.attempt(work)
        else:
            self.assertEqual(house.attempt(work), many)

    def test_against_histories(self):
        for seed, shape in itertools.product(range(4), slow.SHAPES):
            plan = slow.any_plan(seed, shape)
            chance = random.Random(f"{seed} {shape}")
            deeds = [chance.choice(slow.deeds(plan)) for time in range(60)]
            house = House(plan)
            self.assertEqual(house.do(*deeds), told(plan, deeds))
            self.assertEqual(house.stock(), stock_after(plan, deeds))
            self.assertEqual([ran for ran, served in house.bill().values()], runs(plan, deeds))
            self.assertHouse(house, plan, deeds)


class DefinitionsTest(unittest.TestCase):
    def test_where_they_are_defined(self):
        self.assertEqual(House.__module__, "shortkeys.houses")
        for name in ("__init__", "plan", "__getitem__", "__setitem__", "__call__", "do", "__len__", "stock", "journal", "bill",
                     "undo", "branch", "attempt", "__iter__"):
            self.assertIn(name, vars(House))

    def test_by_keyword(self):
        house = House(plan=SHORT)
        self.assertEqual((house(place=0, fields=(1,)), house.attempt(work=len)), (1, 1))


if __name__ == "__main__":
    unittest.main()
