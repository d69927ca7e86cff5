import itertools
import random
import unittest

import slow
from odd import ODD, Liar, Thrower

from shortkeys.cheapest import Cheapest, Never, cheapest, least_price
from shortkeys.errors import BadPlace, BadPlan, BadPrices
from shortkeys.keys import Key
from shortkeys.plans import Plan
from shortkeys.recipes import Recipe
from shortkeys.values import Decided, Split, decide

NAMES = slow.NAMES
WHO, PAGE = Recipe.field(0), Recipe.field(1)
DAY, HOUR = Recipe.cell(0), Recipe.cell(1)
FIRST, SECOND = Recipe.place(0), Recipe.place(1)
PLAN = Plan(2, 2, 1, ((PAGE * DAY, None), (WHO.then(FIRST, PAGE), None)))
DROPPED = Plan(2, 2, 1, PLAN.places, drops=((1,),))
PRICES = {"f0": 1, "f1": 1, "c0": 3, "p0": 2}
NO_PLANS = [None, 0, "plan", (2, 1, 1), Plan, WHO, Key(), *ODD]
NO_PLACES = [2, 3, -1, None, "0", "p0", (0,), *ODD]
NO_PRICES = [
    None, 0, {}, [], (), [("f0", 1)], (("f0", 1),), "f0", Key.of("f0"), {"f0": 0}, {"f0": 10}, {"f0": -1}, {"f0": True},
    {"f0": False}, {"f0": None}, {"f0": "1"}, {"f0": (1,)}, {"f0": [1]}, {"f0": 1, "f1": True}, {"f0": 1, "f2": 1},
    {"c1": 1}, {"p1": 1}, {"F0": 1}, {"": 1}, {0: 1}, {None: 1}, {True: 1}, {("f0",): 1}, {b"f0": 1}, {"f0": 1, "f1": 10},
    {**PRICES, "c0": 0}, {**PRICES, "p1": 1}, {**PRICES, "f0": 10 ** 30}, {"names": 1}, *ODD,
    # Among the odd values, 4 is a price.
    *[{"f0": odd} for odd in ODD if not isinstance(odd, int) or isinstance(odd, bool) or not 1 <= odd <= 9],
]
PLANS = [slow.any_plan(seed, shape) for seed in range(6) for shape in slow.SHAPES]


def ranked(prices):
    """All keys of names with prices, in order, as tuples of names, with their prices."""
    rows = [(sum(prices[name] for name in names), names) for names in slow.all_keys([n for n in NAMES if n in prices])]
    return sorted(rows, key=lambda row: (row[0], len(row[1]), [NAMES.index(name) for name in row[1]]))


class CheapestTest(unittest.TestCase):
    def test_by_hand(self):
        found = cheapest(PLAN, 1, PRICES)
        self.assertIs(type(found), Cheapest)
        self.assertEqual(found.key, Key.of("f0", "f1", "p0"))
        self.assertEqual(found.table, decide(PLAN, 1, found.key).table)
        self.assertEqual([key.names for key, pair in found.splits], [
            (), ("f0",), ("f1",), ("p0",), ("f0", "f1"), ("c0",), ("f0", "p0"), ("f1", "p0")])
        for key, pair in found.splits:
            self.assertIs(Split(*pair).shows(PLAN, 1, key), True)
        self.assertEqual(least_price(PLAN, 1, PRICES), 4)
        self.assertEqual(cheapest(PLAN, 1, {**PRICES, "c0": 1}).key, Key.of("f0", "f1", "c0"))

    def test_the_cells_that_drop_it_cost_nothing(self):
        found = cheapest(DROPPED, 1, {"f0": 1, "f1": 1, "c0": 3})
        self.assertEqual(found.key, Key.of("f0", "f1"))
        self.assertEqual(found.table, decide(PLAN, 1, Key.of("f0", "f1", "c0")).table)
        self.assertEqual([key.names for key, pair in found.splits], [(), ("f0",), ("f1",)])
        for key, pair in found.splits:
            self.assertIs(Split(*pair).shows(PLAN, 1, key | Key.of("c0")), True)
        self.assertEqual(least_price(DROPPED, 1, {"f0": 4, "f1": 5}), 9)
        self.assertIsNone(least_price(PLAN, 1, {"f0": 4, "f1": 5}))
        both = Plan(2, 1, 2, ((DAY + HOUR, Key()), (FIRST + WHO, None)), drops=((0, 1), (0,)))
        self.assertEqual(cheapest(both, 0, {"f0": 1}).key, Key())
        self.assertEqual(cheapest(both, 0, {"f0": 1}).table, {(0, 0): 0, (0, 1): 1, (1, 0): 1, (1, 1): 0})
        self.assertEqual(cheapest(both, 1, {"f0": 5, "c0": 1, "c1": 2}).key, Key.of("f0", "c1"))
        self.assertIs(type(cheapest(both, 1, {"f0": 5, "c0": 1})), Never)

    def test_the_empty_key(self):
        plan = Plan(3, 1, 1, ((Recipe.number(2), None), (DAY + 0, "reads")), drops=((1,),))
        for place, table in ((0, {(): 2}), (1, {(0,): 0, (1,): 1, (2,): 2})):
            found = cheapest(plan, place, {"f0": 9})
            self.assertEqual((found.key, found.table, found.splits), (Key(), table, []))
            self.assertEqual(least_price(plan, place, {"f0": 9, "c0": 1}), 0)
            self.assertIs(found.shows(plan, place, {"f0": 9}), True)

    def test_no_key_is_enough(self):
        found = cheapest(PLAN, 1, {"f0": 1, "p0": 1})
        self.assertIs(type(found), Never)
        self.assertIs(Split(found.one, found.other).shows(PLAN, 1, Key.of("f0", "p0")), True)
        self.assertIsNone(least_price(PLAN, 1, {"f0": 1, "p0": 1}))
        self.assertIsNone(least_price(DROPPED, 0, {"f0": 2}))
        self.assertIs(found.shows(PLAN, 1, {"p0": 9, "f0": 9}), True)

    def test_of_keys_with_one_price_the_shorter_and_then_the_first_comes_first(self):
        plan = Plan(2, 2, 1, ((WHO * PAGE, None), (FIRST + 0, None)))
        for prices, names in (({"f0": 1, "f1": 2, "p0": 3}, ("p0",)), ({"f0": 1, "f1": 2, "p0": 4}, ("f0", "f1")),
                              ({"f0": 1, "f1": 1, "p0": 2, "c0": 1}, ("p0",))):
            self.assertEqual(cheapest(plan, 1, prices).key.names, names)
        plan = Plan(2, 1, 1, ((WHO + 0, None), (DAY + 0, None), (FIRST + SECOND, None)))
        # A field comes before a cell, although its letter does not.
        for prices, names in (({"f0": 1, "c0": 1, "p0": 1, "p1": 1}, ("f0", "c0")),
                              ({"f0": 2, "c0": 2, "p0": 1, "p1": 2}, ("c0", "p0")),
                              ({"f0": 2, "c0": 1, "p0": 2, "p1": 1}, ("f0", "c0"))):
            self.assertEqual(cheapest(plan, 2, prices).key.names, names)
            # Those before it with the same price have no split.
            price = sum(prices[name] for name in names)
            self.assertEqual([key.names for key, pair in cheapest(plan, 2, prices).splits],
                             [row for due, row in ranked(prices) if due < price])

    def test_against_a_slow_way(self):
        for at, plan in enumerate(PLANS):
            for place in range(len(plan)):
                chance = random.Random(f"{at} {place}")
                names = slow.usable(plan, place)
                many = chance.randint(1, len(names))
                self.check(plan, place, {name: chance.randint(1, 9) for name in chance.sample(names, many)})
                self.check(plan, place, {name: chance.randint(1, 2) for name in chance.sample(names, len(names))})

    def check(self, plan, place, prices):
        found = cheapest(plan, place, prices)
        cells = [f"c{cell}" for cell in slow.dropping(plan, place)]
        whole = {names: [n for n in NAMES if n in names or n in cells] for due, names in ranked(prices)}
        enough = [(due, names) for due, names in ranked(prices) if slow.table(plan, place, whole[names]) is not None]
        self.assertIs(found.shows(plan, place, prices), True)
        self.assertEqual(least_price(plan, place, prices), enough[0][0] if enough else None)
        if not enough:
            self.assertIs(type(found), Never)
            key = Key([*prices, *cells])
            self.assertIs(Split(found.one, found.other).shows(plan, place, key), True)
            return
        price, names = enough[0]
        self.assertEqual(found.key.names, names)
        self.assertEqual(list(found.table.items()), list(slow.table(plan, place, whole[names]).items()))
        self.assertEqual([key.names for key, pair in found.splits], [row for due, row in ranked(prices) if due < price])
        for key, pair in found.splits:
            self.assertIs(Split(*pair).shows(plan, place, Key(whole[key.names])), True)

    def test_both_come_about(self):
        kinds = [type(cheapest(plan, 0, {"f0": 2})) for plan in PLANS]
        for kind in (Cheapest, Never):
            self.assertGreater(kinds.count(kind), 5)

    def test_prices_in_any_order_from_1_to_9(self):
        for rows in itertools.permutations(PRICES.items()):
            self.assertEqual(cheapest(PLAN, 1, dict(rows)), cheapest(PLAN, 1, PRICES))
        self.assertEqual(least_price(PLAN, 1, {name: 9 for name in PRICES}), 27)
        self.assertEqual(least_price(PLAN, 1, {name: 1 for name in PRICES}), 3)

    def test_wrong_arguments(self):
        calls = (cheapest, least_price, Cheapest(Key(), {}, []).shows, Never(1, 2).shows)
        for call in calls:
            for plan in NO_PLANS:
                for place, prices in ((0, {"f0": 1}), (None, None), (9, Liar())):
                    with self.assertRaises(BadPlan) as caught:
                        call(plan, place, prices)
                    self.assertIsNone(caught.exception.part)
            for place in NO_PLACES:
                for prices in ({"f0": 1}, {}, None, Thrower()):
                    with self.assertRaises(BadPlace):
                        call(PLAN, place, prices)
            for place, prices in itertools.product((0, 1), NO_PRICES):
                with self.assertRaises(BadPrices):
                    call(PLAN, place, prices)
            with self.assertRaises(BadPrices):
                call(PLAN, 0, PRICES)
            call(PLAN, 1, PRICES)

    def test_arguments_are_not_changed_and_results_are_new(self):
        prices = dict(PRICES)
        found = cheapest(PLAN, 1, prices)
        found.table.clear()
        found.splits.clear()
        self.assertEqual(list(prices.items()), list(PRICES.items()))
        self.assertEqual((len(cheapest(PLAN, 1, prices).table), len(cheapest(PLAN, 1, prices).splits)), (6, 8))
        self.assertIsNot(cheapest(PLAN, 1, prices), cheapest(PLAN, 1, prices))


class CheapestShowsTest(unittest.TestCase):
    def setUp(self):
        found = cheapest(PLAN, 1, PRICES)
        self.key, self.table, self.splits = found.key, found.table, found.splits

    def shows(self, key, table, splits, prices=None, plan=PLAN):
        made = Cheapest(Key(), {}, [])
        made.key, made.table, made.splits = key, table, splits
        return made.shows(plan, 1, prices or PRICES)

    def test_the_table_in_any_order(self):
        self.assertIs(self.shows(self.key, self.table, self.splits), True)
        for seed in range(20):
            rows = list(self.table.items())
            random.Random(seed).shuffle(rows)
            self.assertIs(self.shows(self.key, dict(rows), self.splits), True)

    def test_tables_changed_a_little(self):
        for row, n in self.table.items():
            for other in (1 - n, 2, bool(n), None, str(n)):
                self.assertIs(self.shows(self.key, {**self.table, row: other}, self.splits), False)
            less = {other: m for other, m in self.table.items() if other != row}
            self.assertIs(self.shows(self.key, less, self.splits), False)
            self.assertIs(self.shows(self.key, {**less, tuple(map(bool, row)): n}, self.splits), False)
        self.assertIs(self.shows(self.key, {**self.table, (0, 0, 1): 0}, self.splits), False)
        for table in [None, {}, list(self.table.items()), (), 0, *ODD]:
            self.assertIs(self.shows(self.key, table, self.splits), False)

    def test_keys_changed_a_little(self):
        for names in slow.all_keys(NAMES):
            want = Key(names) == self.key
            self.assertIs(self.shows(Key(names), self.table, self.splits), want)
        for names in slow.all_keys(("f0", "f1", "c0", "p0")):
            found = decide(PLAN, 1, Key(names))
            if isinstance(found, Decided):
                self.assertIs(self.shows(Key(names), found.table, self.splits), Key(names) == self.key)
        for key in [None, self.key.names, list(self.key.names), "f0", PLAN, *ODD]:
            self.assertIs(self.shows(key, self.table, self.splits), False)

    def test_the_key_need_not_be_the_first_one(self):
        plan = Plan(2, 1, 1, ((WHO + 0, None), (DAY + 0, None), (FIRST + SECOND, None)))
        prices = {"f0": 1, "c0": 1, "p0": 1, "p1": 1}
        found = cheapest(plan, 2, prices)
        for names in (("f0", "c0"), ("f0", "p1"), ("c0", "p0"), ("p0", "p1")):
            table = decide(plan, 2, Key(names)).table
            self.assertIs(Cheapest(Key(names), table, found.splits).shows(plan, 2, prices), True)
        for names in (("f0", "p0"), ("c0", "p1"), ("f0",), ("f0", "c0", "p0")):
            self.assertIs(Cheapest(Key(names), found.table, found.splits).shows(plan, 2, prices), False)
        # A dearer key that is enough has a cheaper one before it, for which there is no split.
        dearer = Key.of("f0", "c0", "p0")
        splits = [(Key(row), found.splits[0][1]) for due, row in ranked(prices) if due < 3]
        self.assertIs(Cheapest(dearer, decide(plan, 2, dearer).table, splits).shows(plan, 2, prices), False)

    def test_the_key_has_only_names_with_prices(self):
        key = Key.of("f0", "f1", "c0")
        table = decide(PLAN, 1, key).table
        splits = [(Key(), self.splits[0][1]), (Key.of("f0"), self.splits[1][1]), (Key.of("f1"), self.splits[2][1]),
                  (Key.of("f0", "f1"), self.splits[4][1])]
        dropped = {"f0": 1, "f1": 1}
        found = cheapest(DROPPED, 1, dropped)
        self.assertEqual(found.key, Key.of("f0", "f1"))
        self.assertIs(self.shows(found.key, table, found.splits, dropped, DROPPED), True)
        # The cell that drops it has no price: it cannot stand in the key.
        self.assertIs(self.shows(key, table, found.splits, dropped, DROPPED), False)
        self.assertIs(self.shows(key, table, splits, dropped), False)

    def test_the_table_is_of_the_key_with_the_cells(self):
        found = cheapest(DROPPED, 1, {"f0": 1, "f1": 1})
        for row in list(found.table):
            self.assertEqual(len(row), 3)
        small = {row[:2]: n for row, n in found.table.items()}
        self.assertIs(self.shows(found.key, small, found.splits, {"f0": 1, "f1": 1}, DROPPED), False)

    def test_the_splits_are_of_the_keys_with_the_cells(self):
        prices = {"f0": 1, "f1": 1}
        found = cheapest(DROPPED, 1, prices)
        for at, (key, pair) in enumerate(found.splits):
            for one, other in itertools.product(PLAN.situations(), repeat=2):
                splits = [*found.splits[:at], (key, (one, other)), *found.splits[at + 1:]]
                names = (*key.names, "c0")
                want = slow.row_of(PLAN, one, names) == slow.row_of(PLAN, other, names) and (
                    slow.worth(PLAN, 1, one) != slow.worth(PLAN, 1, other))
                self.assertIs(self.shows(found.key, found.table, splits, prices, DROPPED), want)

    def test_splits_changed_a_little(self):
        for at, (key, pair) in enumerate(self.splits):
            def changed(*rows):
                return self.shows(self.key, self.table, [*self.splits[:at], *rows, *self.splits[at + 1:]])

            self.assertIs(changed((key, pair)), True)
            self.assertIs(changed((key, pair[::-1])), True)
            for rows in ([], [(key, pair)] * 2, [(key, (pair[0], pair[0]))], [(key, pair[0])], [(key, list(pair))],
                         [(key, (*pair, pair[0]))], [(key, (pair[0], ((0, 0), (2,))))], [(key, pair, 0)], [[key, pair]],
                         [(key.names, pair)], [(key | Key.of("c0", "p0"), pair)], [(Key(NAMES), pair)], [None], [pair],
                         [(key, None)], [(key, (pair[0], ((0, True), (1,))))], [(Liar(), pair)], [Liar()], [Thrower()]):
                self.assertIs(changed(*rows), False)
        for splits in [[], None, tuple(self.splits), {}, dict.fromkeys(range(8)), *ODD, self.splits * 2]:
            self.assertIs(self.shows(self.key, self.table, splits), False)

    def test_splits_in_their_order(self):
        for one, other in itertools.combinations(range(len(self.splits)), 2):
            splits = list(self.splits)
            splits[one], splits[other] = splits[other], splits[one]
            self.assertIs(self.shows(self.key, self.table, splits), False)
        self.assertIs(self.shows(self.key, self.table, self.splits[::-1]), False)

    def test_other_prices_and_places(self):
        found = Cheapest(self.key, self.table, self.splits)
        self.assertIs(found.shows(PLAN, 1, {**PRICES, "c0": 2}), False)
        self.assertIs(found.shows(PLAN, 1, {**PRICES, "p0": 9}), False)
        self.assertIs(found.shows(PLAN, 1, {"f0": 1, "f1": 1, "p0": 2}), False)
        self.assertIs(found.shows(PLAN, 1, dict(list(PRICES.items())[::-1])), True)
        self.assertIs(found.shows(PLAN, 0, {"f0": 1}), False)
        self.assertIs(found.shows(DROPPED, 1, PRICES), False)

    def test_changed_by_hand(self):
        found = cheapest(PLAN, 1, PRICES)
        key, pair = found.splits.pop()
        self.assertIs(found.shows(PLAN, 1, PRICES), False)
        found.splits.append((key, pair))
        self.assertIs(found.shows(PLAN, 1, PRICES), True)
        found.table[(0, 0, 0)] = 1
        self.assertIs(found.shows(PLAN, 1, PRICES), False)

    def test_copies(self):
        table, splits = dict(self.table), list(self.splits)
        found = Cheapest(self.key, table, splits)
        table.clear()
        splits.clear()
        self.assertEqual((found.table, found.splits), (self.table, self.splits))

    def test_equality(self):
        found = cheapest(PLAN, 1, PRICES)
        self.assertIs(found == cheapest(PLAN, 1, PRICES), True)
        self.assertIs(found != cheapest(PLAN, 1, PRICES), False)
        for other in (Cheapest(Key(), self.table, self.splits), Cheapest(self.key, {}, self.splits),
                      Cheapest(self.key, self.table, []), Cheapest(self.key, self.table, self.splits[::-1]),
                      Never(1, 2), self.key, Decided(self.table)):
            self.assertIs(found == other, False)
            self.assertIs(found != other, True)


class NeverTest(unittest.TestCase):
    def test_all_pairs_of_situations(self):
        prices = {"p0": 1, "f0": 5}
        for plan, names in ((PLAN, ("f0", "p0")), (DROPPED, ("f0", "c0", "p0"))):
            for one, other in itertools.product(plan.situations(), repeat=2):
                want = slow.row_of(plan, one, names) == slow.row_of(plan, other, names) and (
                    slow.worth(plan, 1, one) != slow.worth(plan, 1, other))
                self.assertIs(Never(one, other).shows(plan, 1, prices), want)

    def test_if_a_key_is_enough_none_shows_it(self):
        for one, other in itertools.product(PLAN.situations(), repeat=2):
            self.assertIs(Never(one, other).shows(PLAN, 1, PRICES), False)

    def test_what_is_no_situation(self):
        found = cheapest(PLAN, 1, {"f0": 1})
        for wrong in [None, 0, (), ((0, 0),), ((0, 0), (2,)), ((0,), (0,)), ((0, 0), (True,)), [(0, 0), (0,)], *ODD]:
            for one, other in ((found.one, wrong), (wrong, found.other), (wrong, found.one)):
                self.assertIs(Never(one, other).shows(PLAN, 1, {"f0": 1}), False)

    def test_changed_by_hand(self):
        found = cheapest(PLAN, 1, {"f0": 1})
        self.assertIs(found.shows(PLAN, 1, {"f0": 1}), True)
        found.one, found.other = found.other, found.one
        self.assertIs(found.shows(PLAN, 1, {"f0": 1}), True)
        found.one = found.other
        self.assertIs(found.shows(PLAN, 1, {"f0": 1}), False)

    def test_equality(self):
        one, other = ((0, 0), (0,)), ((0, 0), (1,))
        self.assertIs(Never(one, other) == Never(one, other), True)
        self.assertIs(Never(one, other) != Never(one, other), False)
        for wrong in (Never(other, one), Never(one, one), Never(other, other), Split(one, other), Cheapest(Key(), {}, [])):
            self.assertIs(Never(one, other) == wrong, False)
            self.assertIs(Never(one, other) != wrong, True)


class DefinitionsTest(unittest.TestCase):
    def test_where_they_are_defined(self):
        for given in (cheapest, least_price, Cheapest, Never):
            self.assertEqual(given.__module__, "shortkeys.cheapest")
        for given in (Cheapest, Never):
            for name in ("__init__", "shows", "__eq__"):
                self.assertIn(name, vars(given))

    def test_by_keyword(self):
        self.assertIs(cheapest(plan=PLAN, place=1, prices=PRICES).shows(plan=PLAN, place=1, prices=PRICES), True)
        self.assertEqual(least_price(plan=PLAN, place=1, prices=PRICES), 4)
        self.assertEqual(Cheapest(key=Key(), table={}, splits=[]), Cheapest(Key(), {}, []))
        self.assertEqual(Never(one=1, other=2), Never(1, 2))


if __name__ == "__main__":
    unittest.main()
