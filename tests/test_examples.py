"""The examples of the document, as they stand there."""

import ast
import doctest
import pathlib
import re
import unittest

ROOT = pathlib.Path(__file__).resolve().parent.parent
DOCUMENT = ROOT.parent / "shared" / "DOC.md"

RECIPES = """\
>>> from shortkeys.recipes import Recipe
>>> who, page, day = Recipe.field(0), Recipe.field(1), Recipe.cell(0)
>>> greeting = who.same(1).then(2 * page + day, 1 - page)
>>> [greeting.names, len(greeting), greeting(3, {'f0': 1, 'f1': 2, 'c0': 2}), greeting(3, {'f0': 0, 'f1': 2, 'c0': 2}), 'c1' in greeting]
[('f0', 'f1', 'c0'), 7, 0, 2, False]
"""

KEYS = """\
>>> from shortkeys.keys import Key
>>> one, other = Key.of('c0', 'f0'), Key(['f0', 'p1', 'f0'])
>>> [(one | other).names, (one ^ other).names, one & other <= one, one < one, len(other), 'p0' in other]
[('f0', 'c0', 'p1'), ('c0', 'p1'), True, False, 2, False]
"""


def is_enough(block):
    """Tell whether the package has all modules from which an example imports."""
    rows = [example.source for example in doctest.DocTestParser().get_examples(block)]
    names = [node.module for node in ast.walk(ast.parse("".join(rows))) if isinstance(node, ast.ImportFrom)]
    return all((ROOT / (name.replace(".", "/") + ".py")).exists() for name in names)


def failures(block):
    """Return how many examples of a block fail, and how many were tried."""
    test = doctest.DocTestParser().get_doctest(block, {}, "example", None, None)
    return doctest.DocTestRunner(verbose=False).run(test)


class ExamplesTest(unittest.TestCase):
    def test_recipes(self):
        self.assertEqual(tuple(failures(RECIPES)), (0, 4))

    def test_keys(self):
        self.assertEqual(tuple(failures(KEYS)), (0, 3))

    def test_readme(self):
        blocks = re.findall(r"```\n(>>>.*?)```", (ROOT / "README.md").read_text(encoding="utf-8"), re.DOTALL)
        self.assertEqual([tuple(failures(block)) for block in blocks], [(0, 6)])

    @unittest.skipUnless(DOCUMENT.exists(), "the document is not beside the project")
    def test_all_for_which_there_are_modules(self):
        blocks = re.findall(r"```\n(.*?)```", DOCUMENT.read_text(encoding="utf-8"), re.DOTALL)
        self.assertEqual(blocks[:2], [RECIPES, KEYS])
        for block in blocks:
            if is_enough(block):
                with self.subTest(block=block):
                    self.assertEqual(failures(block).failed, 0)


if __name__ == "__main__":
    unittest.main()
