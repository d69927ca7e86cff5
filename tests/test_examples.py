"""The examples of the document, as they stand there."""

import doctest
import pathlib
import re
import unittest

ROOT = pathlib.Path(__file__).resolve().parent.parent
DOCUMENT = ROOT.parent / "shared" / "DOC.md"

RECIPES = """\
>>> from shortkeys.recipes import Recipe
>>> who, page, day = Recipe.field(0), Recipe.field(1), Recipe.cell(0)
>>> greeting = who.same(1).then(2 * page + day, 1 - page)
>>> [greeting.names, len(greeting), greeting(3, {'f0': 1, 'f1': 2, 'c0': 2}), greeting(3, {'f0': 0, 'f1': 2, 'c0': 2}), 'c1' in greeting]
[('f0', 'f1', 'c0'), 7, 0, 2, False]
"""

KEYS = """\
>>> from shortkeys.keys import Key
>>> one, other = Key.of('c0', 'f0'), Key(['f0', 'p1', 'f0'])
>>> [(one | other).names, (one ^ other).names, one & other <= one, one < one, len(other), 'p0' in other]
[('f0', 'c0', 'p1'), ('c0', 'p1'), True, False, 2, False]
"""

VALUES = """\
>>> from shortkeys.keys import Key
>>> from shortkeys.plans import Plan
>>> from shortkeys.recipes import Recipe
>>> from shortkeys.values import core_keys, decide, does_decide, free_names, reads, value
>>> who, page, day = Recipe.field(0), Recipe.field(1), Recipe.cell(0)
>>> plan = Plan(2, 2, 1, ((page * day, None), (who.then(Recipe.place(0), page), Key.of('f0', 'f1'))))
>>> first = [value(plan, 1, ((1, 1), (1,))), reads(plan, 1, ((1, 1), (1,))), reads(plan, 1, ((0, 1), (1,))), [key.names for key in core_keys(plan, 1)]]
>>> [first, does_decide(plan, 1, Key.of('f0', 'f1')), decide(plan, 0, Key.of('f1', 'c0')).table, free_names(plan, 0).names, len(plan.situations())]
[[1, ['f0', 'p0'], ['f0', 'f1'], [('f0', 'f1', 'c0'), ('f0', 'f1', 'p0')]], False, {(0, 0): 0, (0, 1): 0, (1, 0): 0, (1, 1): 1}, ('f0',), 8]
"""

JUDGING = """\
>>> from shortkeys.judging import Mixed, is_sound, judge, mixes, soonest
>>> from shortkeys.keeping import false_deeds, runs, told, traced
>>> from shortkeys.keys import Key
>>> from shortkeys.plans import Plan
>>> from shortkeys.recipes import Recipe
>>> who, page, day = Recipe.field(0), Recipe.field(1), Recipe.cell(0)
>>> plan = Plan(2, 2, 1, ((page * day, Key.of('f1')), (who.then(Recipe.place(0), page), 'reads')), drops=((0,),))
>>> history = [('ask', 1, (1, 1)), ('set', 0, 1), ('ask', 1, (1, 1)), ('ask', 1, (0, 1))]
>>> first = [told(plan, history), traced(plan, history)[2], runs(plan, history), false_deeds(plan, history), is_sound(plan)]
>>> other = plan.ruled(1, 'shown')
>>> [first, told(other, history), false_deeds(other, history), soonest(other), judge(other).shows(other), len(mixes(other, 1)), Mixed(history[:3]).shows(plan)]
[[[0, None, 1, 1], [(0, 'run', 1), (0, 'served', 1), (1, 'run', 1)], [2, 3], [], True], [0, None, 0, 1], [2], 3, True, 6, False]
"""

CHEAPEST = """\
>>> from shortkeys.cheapest import cheapest, least_price
>>> from shortkeys.keys import Key
>>> from shortkeys.plans import Plan
>>> from shortkeys.recipes import Recipe
>>> who, page, day = Recipe.field(0), Recipe.field(1), Recipe.cell(0)
>>> plan = Plan(2, 2, 1, ((page * day, None), (who.then(Recipe.place(0), page), None)))
>>> found = cheapest(plan, 1, {'f0': 1, 'f1': 1, 'c0': 3, 'p0': 2})
>>> dropped = Plan(2, 2, 1, plan.places, drops=((1,),))
>>> [found.key.names, len(found.splits), least_price(plan, 1, {'f0': 1, 'p0': 1}), cheapest(dropped, 1, {'f0': 1, 'f1': 1, 'c0': 3}).key.names, least_price(dropped, 0, {'f0': 2})]
[('f0', 'f1', 'p0'), 8, None, ('f0', 'f1'), None]
"""

MENDING = """\
>>> from shortkeys.judging import Mixed
>>> from shortkeys.keys import Key
>>> from shortkeys.mending import Hopeless, least_cost, mend, plan_after
>>> from shortkeys.plans import Plan
>>> from shortkeys.recipes import Recipe
>>> plan = Plan(2, 1, 1, ((Recipe.field(0) + Recipe.cell(0), Key.of('f0')),))
>>> offers = (('mark', 0, 'c0', 3), ('drop', 0, 0, 2), ('rule', 0, None, 4), ('rule', 0, 'reads', 2))
>>> found = mend(plan, offers)
>>> bad = Mixed([('ask', 0, (1,)), ('set', 0, 1), ('ask', 0, (1,))])
>>> [found.choice, list(found.against), least_cost(plan, offers[2:]), plan_after(plan, offers, (0, 2))[0][1], plan_after(plan, offers, (0, 1)).drops]
[(1,), [()], 2, None, ((0,),)]
>>> [found.shows(plan, offers), Hopeless({(): bad}).shows(plan, (('rule', 0, Key.of('f0'), 1),)), Hopeless({(): bad, (0,): bad}).shows(plan, (('rule', 0, Key.of('f0'), 1),))]
[True, False, True]
"""

HOUSES = """\
>>> from shortkeys.alike import Parted, are_alike, parting_length
>>> from shortkeys.houses import House
>>> from shortkeys.keys import Key
>>> from shortkeys.plans import Plan
>>> from shortkeys.recipes import Recipe
>>> short = Plan(2, 1, 1, ((Recipe.field(0) + Recipe.cell(0), Key.of('f0')),))
>>> full, bare = short.ruled(0, 'reads'), short.ruled(0, None)
>>> house = House(short)
>>> first = [house(0, (1,)), house.do(('set', 0, 1), ('ask', 0, (1,)), ('ask', 0, (0,))), house.bill(), house[0], house.stock()]
>>> second = [house.undo(), house.attempt(House.stock) == house.stock(), len(house), house.branch().journal() == house.journal()]
>>> history = [('ask', 0, (1,)), ('set', 0, 1), ('ask', 0, (1,))]
>>> [first, second, are_alike(full, bare), parting_length(short, full), Parted(history).shows(short, full), Parted(history[:1]).shows(short, full)]
[[1, [None, 1, 1], {0: (2, 1)}, 1, ((1,), ((((('f0', 1),), 1), ((('f0', 0),), 1)),))], [(('ask', 0, (0,)), 1), True, 3, True], True, 3, True, False]
"""

TEXTS = """\
>>> from shortkeys.keys import Key
>>> from shortkeys.plans import Plan
>>> from shortkeys.recipes import Recipe
>>> from shortkeys.texts import history_text, plan_text, read_history, read_plan, read_recipe, recipe_text
>>> who, day = Recipe.field(0), Recipe.cell(0)
>>> plan = Plan(3, 1, 1, ((2 * day, None), (who.same(1).then(Recipe.place(0), who - day), Key.of('c0', 'f0'))), drops=((0, 1),))
>>> [recipe_text(plan[1][0]), plan_text(plan), read_plan(plan_text(plan)) == plan, read_recipe('(f0?(1+c0):2)').form]
['((f0=1)?p0:(f0-c0))', 'base 3\\nfields 1\\ncells 1\\nplace none (2*c0)\\nplace key,f0,c0 ((f0=1)?p0:(f0-c0))\\ndrops 0 1\\n', True, ('when', ('field', 0), ('sum', ('number', 1), ('cell', 0)), ('number', 2))]
>>> [history_text(plan, [('set', 0, 2), ('ask', 1, (1,))]), read_history(plan, 'ask 0 2\\nset 0 1\\n')]
['set 0 2\\nask 1 1\\n', [('ask', 0, (2,)), ('set', 0, 1)]]
"""


def failures(block):
    """Return how many examples of a block fail, and how many were tried."""
    test = doctest.DocTestParser().get_doctest(block, {}, "example", None, None)
    return doctest.DocTestRunner(verbose=False).run(test)


class ExamplesTest(unittest.TestCase):
    def test_recipes(self):
        self.assertEqual(tuple(failures(RECIPES)), (0, 4))

    def test_keys(self):
        self.assertEqual(tuple(failures(KEYS)), (0, 3))

    def test_values(self):
        self.assertEqual(tuple(failures(VALUES)), (0, 8))

    def test_judging(self):
        self.assertEqual(tuple(failures(JUDGING)), (0, 11))

    def test_cheapest(self):
        self.assertEqual(tuple(failures(CHEAPEST)), (0, 9))

    def test_mending(self):
        self.assertEqual(tuple(failures(MENDING)), (0, 11))

    def test_houses(self):
        self.assertEqual(tuple(failures(HOUSES)), (0, 12))

    def test_texts(self):
        self.assertEqual(tuple(failures(TEXTS)), (0, 8))

    def test_readme(self):
        blocks = re.findall(r"```\n(>>>.*?)```", (ROOT / "README.md").read_text(encoding="utf-8"), re.DOTALL)
        self.assertEqual([tuple(failures(block)) for block in blocks], [(0, 23)])

    @unittest.skipUnless(DOCUMENT.exists(), "the document is not beside the project")
    def test_they_are_those_of_the_document(self):
        blocks = re.findall(r"```\n(.*?)```", DOCUMENT.read_text(encoding="utf-8"), re.DOTALL)
        self.assertEqual(blocks, [RECIPES, KEYS, VALUES, JUDGING, CHEAPEST, MENDING, HOUSES, TEXTS])


if __name__ == "__main__":
    unittest.main()
