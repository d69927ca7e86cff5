import itertools
import random
import unittest

import slow
from odd import NO_STRINGS, ODD, Liar, Thrower

from shortkeys.errors import BadHistory, BadPlan, BadRecipe, BadText
from shortkeys.keys import Key
from shortkeys.plans import Plan
from shortkeys.recipes import Recipe
from shortkeys.texts import history_text, plan_text, read_history, read_plan, read_recipe, recipe_text

WHO, PAGE, DAY, FIRST = Recipe.field(0), Recipe.field(1), Recipe.cell(0), Recipe.place(0)
PLAN = Plan(3, 1, 1, ((2 * DAY, None), (WHO.same(1).then(FIRST, WHO - DAY), Key.of("c0", "f0"))), drops=((0, 1),))
LINES = ["base 3", "fields 1", "cells 1", "place none (2*c0)", "place key,f0,c0 ((f0=1)?p0:(f0-c0))", "drops 0 1"]
TEXT = "\n".join(LINES) + "\n"
PLANS = [slow.any_plan(seed, shape) for seed in range(12) for shape in slow.SHAPES]
SIGNS = "012fcp(+-*=?:) "
NO_PLANS = [None, 0, "plan", TEXT, (2, 1, 1), Plan, WHO, Key(), *ODD]
NO_RECIPES = [None, 0, 1, ("field", 0), "f0", Key(), PLAN, Recipe, (WHO,), *ODD]
NO_TEXTS = [bytes(TEXT, "ascii"), WHO, PLAN, LINES, [("set", 0, 1)], *NO_STRINGS]
LEAVES = ("0", "1", "2", "f0", "f1", "f2", "c0", "c1", "p0", "p1")
# Not to be taken for digits, spaces or line feeds.
ALIKE = "\u0660\u0661\u00b9\u00b2\uff10\uff11\uff46\u00a0\u2003\x1c\x85\u2028\r\t\v\f\0"


class TextTest(unittest.TestCase):
    def wrong(self, row, call, *given):
        with self.assertRaises(BadText) as caught:
            call(*given)
        self.assertEqual(caught.exception.row, row, given)
        self.assertNotIsInstance(caught.exception.row, bool)


class RecipeTextTest(TextTest):
    def test_each_kind(self):
        for recipe, text in ((Recipe.number(0), "0"), (Recipe.number(2), "2"), (WHO, "f0"), (Recipe.field(2), "f2"), (DAY, "c0"),
                             (Recipe.cell(1), "c1"), (FIRST, "p0"), (Recipe.place(1), "p1"), (WHO + DAY, "(f0+c0)"),
                             (WHO - 1, "(f0-1)"), (2 * WHO, "(2*f0)"), (WHO.same(PAGE), "(f0=f1)"), (-DAY, "(0-c0)"),
                             (WHO.then(1, DAY), "(f0?1:c0)"), (WHO - DAY - 1, "((f0-c0)-1)"), (WHO - (DAY - 1), "(f0-(c0-1))"),
                             (WHO.then(1, 0).then(WHO.then(1, 2), WHO.then(0, 1)), "((f0?1:0)?(f0?1:2):(f0?0:1))")):
            self.assertEqual(recipe_text(recipe), text)
            self.assertEqual(read_recipe(text), recipe)
            self.assertEqual(slow.text_of_form(recipe.form), text)

    def test_any_forms_there_and_back(self):
        chance = random.Random(14)
        for time in range(600):
            recipe = Recipe(slow.any_form(chance, chance.randint(1, 9), 3, slow.NAMES))
            text = recipe_text(recipe)
            self.assertEqual(text, slow.text_of_form(recipe.form))
            found = read_recipe(text)
            self.assertIs(type(found), Recipe)
            self.assertEqual((found, found.form), (recipe, recipe.form))

    def test_what_is_no_recipe(self):
        for recipe in NO_RECIPES:
            with self.assertRaises(BadRecipe):
                recipe_text(recipe)

    def test_what_is_no_string(self):
        for text in NO_TEXTS:
            self.wrong(None, read_recipe, text)

    def test_ends_too_early(self):
        for text in ("", "f", "c", "p", "(", "(f0", "(f0+", "(f0+c", "(f0+c0", "(f0?", "(f0?1", "(f0?1:", "(f0?1:0", "((f0+1)",
                     "((((", "(f0+((c0=1)"):
            self.wrong(len(text), read_recipe, text)

    def test_goes_on_behind_it(self):
        for text in ("f0", "1", "(f0+1)", "(f0?1:0)", "((f0+1)*(c0-1))"):
            for more in ("0", " ", "\n", "+1", ")", "(", "f0", "?1:0", "\n\n"):
                self.wrong(len(text), read_recipe, text + more)

    def test_goes_wrong(self):
        for text, row in (("3", 0), ("f3", 1), ("c2", 1), ("p2", 1), ("x", 0), (" f0", 0), ("f 0", 1), ("F0", 0), ("f00", 2),
                          ("01", 1), ("-1", 0), ("+", 0), (")", 0), ("()", 1), ("(f0)", 3), ("(f0 +1)", 3), ("(f0+ 1)", 4),
                          ("(f0+1 )", 5), ("(f0+1+1)", 5), ("(f0==1)", 4), ("(f0/1)", 3), ("(f0?1)", 5), ("(f0:1)", 3),
                          ("(f0?1:0:1)", 7), ("(f0+1:0)", 5), ("(f0?1?0)", 5), ("(f0?1+1:0)", 5), ("(f0+3)", 4), ("((f0+1)", 7),
                          ("(f0+1))", 6), ("(f0+p2)", 5), ("((f0)+1)", 4), ("(+f0)", 1), ("(f0+)", 4), ("f0+1", 2)):
            self.assertEqual(slow.form_goes_wrong(text), row)
            self.wrong(row, read_recipe, text)

    def test_signs_that_look_alike(self):
        for sign in ALIKE:
            for text, row in ((sign, 0), ("f" + sign, 1), ("f0" + sign, 2), ("(f0+" + sign + ")", 4), ("(" + sign + "f0+1)", 1)):
                self.wrong(row, read_recipe, text)

    def test_any_sign_at_any_place(self):
        signs = [chr(n) for n in range(256)] + list(ALIKE)
        for text in ("f0", "1", "(f0+c1)", "(p1?(f2=2):0)"):
            for at, sign in itertools.product(range(len(text)), signs):
                self.check(text[:at] + sign + text[at + 1:])
                self.check(text[:at] + sign)

    def test_all_short_texts(self):
        for many in range(4):
            for signs in itertools.product(SIGNS, repeat=many):
                self.check("".join(signs))
        for signs in itertools.product("1f(+?:)", repeat=5):
            self.check("".join(signs))

    def test_texts_that_are_changed_a_little(self):
        chance = random.Random(7)
        for time in range(3000):
            text = slow.text_of_form(slow.any_form(chance, chance.randint(1, 9), 3, slow.NAMES))
            at = chance.randrange(len(text) + 1)
            for changed in (text[:at] + chance.choice(SIGNS) + text[at + 1:], text[:at] + text[at + 1:], text[:at],
                            text[:at] + chance.choice(SIGNS) + text[at:]):
                self.check(changed)

    def check(self, text):
        row = slow.form_goes_wrong(text)
        if row is not None:
            self.wrong(row, read_recipe, text)
        elif len([sign for sign in text if sign in "fcp"]) > 9:
            self.wrong(None, read_recipe, text)
        else:
            try:
                self.assertEqual(recipe_text(read_recipe(text)), text)
            except BadText as error:
                self.assertIsNone(error.row)

    def chain(self, many, leaf="1"):
        """The text of a form with so many leaves."""
        return "(" * (many - 1) + leaf + ("+" + leaf + ")") * (many - 1)

    def test_nine_leaves_and_more(self):
        for leaf in LEAVES:
            self.assertEqual(len(read_recipe(self.chain(9, leaf))), 9)
            self.assertEqual(recipe_text(read_recipe(self.chain(9, leaf))), self.chain(9, leaf))
            for many in (10, 11, 15):
                self.wrong(None, read_recipe, self.chain(many, leaf))
        self.assertEqual(len(read_recipe("(((1?1:1)?1:1)?(f0?1:0):1)")), 9)
        for text in ("(((1?1:1)?1:1)?(f0?1:0):(1+1))", "((((1?1:1)?1:1)?(f0?1:0):1)?1:1)", "(1+" + self.chain(9) + ")",
                     "(" + self.chain(9) + "+1)", "(" + self.chain(9) + "=" + self.chain(9) + ")"):
            self.wrong(None, read_recipe, text)

    def test_too_long_and_wrong(self):
        # A text goes wrong where no form of whatever length can go on, also behind more than nine leaves.
        for many in (9, 10, 12, 20):
            text = self.chain(many)
            self.wrong(len(text) - 1, read_recipe, text[:-1])
            self.wrong(len(text), read_recipe, text + "1")
            self.wrong(len(text) - 2, read_recipe, text[:-2] + "x)")
            self.wrong(len(text) - 3, read_recipe, text[:-3] + "x1)")

    def test_just_100_characters_and_101(self):
        # A leaf more takes four characters, or five with a name; and three less with a number in place of it.
        long = "(" * 24 + "1" + "+1)" * 23 + "+f0)"
        self.assertEqual((len(long), slow.form_goes_wrong(long)), (98, None))
        self.wrong(None, read_recipe, long)
        for text in ("(" * 100, "(" * 99 + "1", "(" * 33 + "1" + "+1)" * 22):
            self.assertEqual(len(text), 100)
            self.wrong(100, read_recipe, text)
        self.wrong(99, read_recipe, "(" * 99 + "x")
        self.wrong(0, read_recipe, "x" * 100)
        self.wrong(2, read_recipe, "f0" + " " * 98)
        for text in ("(" * 101, "(" * 100 + "1", "x" * 101, "f0" + " " * 99, "(" * 99 + "xx", "f0" * 60, "(" * 10 ** 6):
            self.wrong(None, read_recipe, text)
        whole = "(" * 24 + "1" + "+1)" * 21 + "+f0)" * 3
        self.assertEqual((len(whole), slow.form_goes_wrong(whole)), (100, None))
        self.wrong(None, read_recipe, whole)
        self.wrong(100, read_recipe, "(" + whole[:24] + "1" + whole[25:-1])
        self.assertEqual(read_recipe("1"), Recipe.number(1))


class PlanTextTest(TextTest):
    def test_by_hand(self):
        self.assertEqual(plan_text(PLAN), TEXT)
        self.assertEqual(read_plan(TEXT), PLAN)
        plan = Plan(2, 3, 2, ((WHO, "reads"), (WHO, "shown"), (FIRST + PAGE, Key())), drops=((), (0, 2)))
        text = "base 2\nfields 3\ncells 2\nplace reads f0\nplace shown f0\nplace key (p0+f1)\ndrops\ndrops 0 2\n"
        self.assertEqual(plan_text(plan), text)
        self.assertEqual(read_plan(text), plan)
        plan = Plan(2, 1, 0, ((WHO, None),))
        self.assertEqual(plan_text(plan), "base 2\nfields 1\ncells 0\nplace none f0\n")
        self.assertEqual(read_plan(plan_text(plan)), plan)

    def test_names_of_keys_in_order(self):
        key = Key.of("p1", "c1", "f2", "p0", "f0", "c0", "f1")
        plan = Plan(2, 3, 2, ((WHO, None), (WHO, None), (WHO, key)))
        self.assertIn("\nplace key,f0,f1,f2,c0,c1,p0,p1 f0\n", plan_text(plan))
        self.assertEqual(read_plan(plan_text(plan)), plan)

    def test_any_plans_there_and_back(self):
        for plan in PLANS:
            text = plan_text(plan)
            found = read_plan(text)
            self.assertIs(type(found), Plan)
            self.assertEqual(found, plan)
            self.assertEqual(plan_text(found), text)
            self.assertTrue(text.endswith("\n"))
            self.assertEqual(text.count("\n"), 3 + len(plan) + plan.cells)

    def test_wrong_plans(self):
        for plan in NO_PLANS:
            with self.assertRaises(BadPlan) as caught:
                plan_text(plan)
            self.assertIsNone(caught.exception.part)

    def test_what_is_no_string(self):
        for text in NO_TEXTS:
            self.wrong(0, read_plan, text)

    def test_lines_are_missing(self):
        for many in range(len(LINES)):
            self.wrong(many, read_plan, "".join(line + "\n" for line in LINES[:many]))
        for plan in PLANS:
            lines = plan_text(plan).split("\n")[:-1]
            for many in range(len(lines)):
                text = "".join(line + "\n" for line in lines[:many])
                if plan.cells or many < 4:
                    self.wrong(many, read_plan, text)
                else:
                    self.assertEqual(len(read_plan(text)), many - 3)

    def test_characters_behind_the_last_line_feed(self):
        for many in range(len(LINES) + 1):
            text = "".join(line + "\n" for line in LINES[:many])
            for more in ("x", " ", "drops", "drops 0 1", "base 3", "\r", *[line for line in LINES[many:many + 1]]):
                self.wrong(many, read_plan, text + more)
        self.wrong(5, read_plan, TEXT[:-1])
        self.wrong(0, read_plan, "base 3")

    def test_lines_behind_the_last_one(self):
        for more in ("\n", "drops\n", "x\n", "base 3\n", "place none f0\n", "\n\n", "x\nx", "\nx"):
            self.wrong(6, read_plan, TEXT + more)
        for more in ("drops\n", "\n", "drops 0\n"):
            self.wrong(4, read_plan, "base 2\nfields 1\ncells 0\nplace none f0\n" + more)

    def test_the_first_line_that_is_wrong(self):
        for at, line in enumerate(LINES):
            for wrong in ("", " ", line + " ", " " + line, line.replace(" ", "  ", 1), line.upper(), line + "\r", line + "\t",
                          line.replace(" ", "\t", 1), "x" + line, line[1:], line + " 0", line + "0", line.replace(" ", ""),
                          "set 0 1", line + "\x85", line + "\u2028", line + "x", line + " x", line + ",", "\ufeff" + line):
                if wrong not in ("drops 0 1 0",):
                    for after in (LINES[at + 1:], [], ["x"], LINES, [wrong]):
                        text = "".join(row + "\n" for row in LINES[:at] + [wrong] + after)
                        self.wrong(at, read_plan, text)
                        self.wrong(at, read_plan, text + "more")

    def lines(self, at, line, row, before=LINES):
        """Check a text in which a line stands in the place of another one: row is where it goes wrong, or None."""
        text = "".join(other + "\n" for other in before[:at] + [line] + before[at + 1:])
        if row is None:
            self.assertEqual(plan_text(read_plan(text)), text)
        else:
            self.wrong(row, read_plan, text)

    def test_numbers(self):
        for number in ("2", "3"):
            self.lines(0, f"base {number}", 3 if number == "2" else None)
        for number in ("0", "1", "4", "5", "9", "03", "-2", "+2", "2.0", "x", "", "three", "10", "22", *ALIKE):
            self.lines(0, f"base {number}", 0)
        for number in "123":
            self.lines(1, f"fields {number}", None)
        for number in ("0", "4", "9", "01", "-1", "x", "", *ALIKE):
            self.lines(1, f"fields {number}", 1)
        for number in ("3", "4", "9", "01", "-1", "x", "", *ALIKE):
            self.lines(2, f"cells {number}", 2)
        # With one cell more, a line is missing in the end; without one, the name of the cell is wrong.
        self.lines(2, "cells 2", 6)
        self.lines(2, "cells 0", 3)

    def test_the_limit_of_81(self):
        for fields, cells, row in ((3, 2, 2), (3, 1, None), (2, 2, None), (1, 2, None), (3, 0, None)):
            lines = ["base 3", f"fields {fields}", f"cells {cells}", "place none f0"] + ["drops"] * cells
            self.lines(3, "place none f0", row, lines)
            lines[0] = "base 2"
            self.lines(3, "place none f0", None, lines)

    def test_places(self):
        for form in ("f0", "c0", "0", "2", "(f0?c0:1)", "((2*c0)+f0)", "(((f0+1)+(f0+1))+((f0+1)+(f0+(1+2))))"):
            self.lines(3, f"place none {form}", None)
            self.lines(3, f"place reads {form}", None)
        nine = "(" * 8 + "1" + "+1)" * 8
        self.lines(3, f"place none {nine}", None)
        for form in ("f1", "c1", "p0", "p1", "f2", "3", "(f0+f1)", "(p0+1)", "(f0+1", "f0)", "(f0)", "", "f00", "(f0 + 1)",
                     f"({nine}+1)", "(" * 101, "(" * 40 + "1" + "+1)" * 39 + "x", "x", "None", "f0,c0", *ALIKE):
            self.lines(3, f"place none {form}", 3)
        for form in ("p0", "(p0+f0)", "(p0?p0:p0)"):
            self.lines(4, f"place none {form}", None)
        for form in ("p1", "(p0+p1)", "f1"):
            self.lines(4, f"place none {form}", 4)

    def test_numbers_of_forms_are_less_than_the_base(self):
        lines = ["base 2", "fields 1", "cells 0", "place none f0"]
        for form, row in (("1", None), ("0", None), ("2", 3), ("(f0+2)", 3), ("(f0+1)", None), ("(1?1:2)", 3), ("(f0=2)", 3)):
            self.lines(3, f"place none {form}", row, lines)

    def test_rules(self):
        for rule in ("none", "reads", "shown", "key", "key,f0", "key,c0", "key,f0,c0"):
            self.lines(3, f"place {rule} f0", None)
        for rule in ("", "None", "read", "Reads", "keys", "key,", "key,,f0", "key,f0,", ",key", "key,c0,f0", "key,f0,f0", "key f0",
                     "f0", "key,f1", "key,c1", "key,p0", "key,x", "key.f0", "key,F0", "key;f0", "none,f0", "reads,f0", "key,none",
                     "key,f0,c0,c0", "key, f0", "key,f0 ,c0", *ALIKE):
            self.lines(3, f"place {rule} f0", 3)
        for rule, row in (("key,p0", None), ("key,f0,c0,p0", None), ("key,p0,f0", 4), ("key,p1", 4), ("key,p0,p0", 4)):
            self.lines(4, f"place {rule} f0", row)

    def test_one_to_three_places(self):
        for cells in (0, 1, 2):
            for many in (1, 2, 3):
                lines = ["base 2", "fields 1", f"cells {cells}"] + ["place none f0"] * many + ["drops"] * cells
                self.lines(3, "place none f0", None, lines)
                self.lines(3, "drops", 3, lines)
            lines = ["base 2", "fields 1", f"cells {cells}"] + ["place none f0"] * 5 + ["drops"] * cells
            self.lines(3, "place none f0", 6, lines)
        self.wrong(3, read_plan, "base 2\nfields 1\ncells 0\n")
        self.wrong(3, read_plan, "base 2\nfields 1\ncells 0\ndrops\n")

    def test_drops(self):
        for row in ("drops", "drops 0", "drops 1", "drops 0 1"):
            self.lines(5, row, None)
        for row in ("drops 2", "drops 1 0", "drops 0 0", "drops 0 1 1", "drops 0 1 2", "drops -1", "drops 00", "drops p0", "drop 0",
                    "drops,0", "drops 0,1", "drops none", "drops  0", "drops 0 ", "drops ", "Drops", "", "0 1",
                    *[f"drops {sign}" for sign in ALIKE], *[f"drops{sign}0" for sign in ALIKE]):
            self.lines(5, row, 5)
        lines = LINES[:2] + ["cells 2"] + LINES[3:] + ["drops 1"]
        self.lines(6, "drops 0", None, lines)
        self.lines(6, "drops 0 2", 6, lines)
        self.lines(6, "place none f0", 6, lines)
        self.lines(5, "place none f0", None, lines + ["drops"])
        self.lines(6, "drops", 7, lines + ["drops"])

    def test_a_text_can_be_read_or_goes_wrong_where_none_can_go_on(self):
        chance = random.Random(3)
        for time in range(1500):
            plan = chance.choice(PLANS)
            lines = plan_text(plan).split("\n")[:-1]
            others = plan_text(chance.choice(PLANS)).split("\n")[:-1]
            for change in range(chance.randint(1, 2)):
                lines[chance.randrange(len(lines))] = chance.choice(others)
            self.check(lines)

    def check(self, lines):
        text = "".join(line + "\n" for line in lines)
        try:
            self.assertEqual(plan_text(read_plan(text)), text)
        except BadText as error:
            row = error.row
            # The lines before it can go on somehow to a whole text, those with it cannot.
            self.assertTrue(self.goes_on(lines[:row]))
            self.assertTrue(row == len(lines) or not self.goes_on(lines[:row + 1]))

    def goes_on(self, lines):
        for heads, places, drops in itertools.product(range(4), range(2), range(3)):
            more = ["base 2", "fields 1", "cells 0"][heads:] + ["place none 0"] * places + ["drops"] * drops
            text = "".join(line + "\n" for line in lines + more)
            try:
                if plan_text(read_plan(text)) == text:
                    return True
            except BadText:
                pass
        return False


class HistoryTextTest(TextTest):
    def test_by_hand(self):
        self.assertEqual(history_text(PLAN, [("set", 0, 2), ("ask", 1, (1,))]), "set 0 2\nask 1 1\n")
        self.assertEqual(read_history(PLAN, "ask 0 2\nset 0 1\n"), [("ask", 0, (2,)), ("set", 0, 1)])
        wide = Plan(2, 3, 2, ((WHO, None), (WHO, None)))
        self.assertEqual(history_text(wide, (("ask", 1, (0, 1, 0)), ("set", 1, 0))), "ask 1 0 1 0\nset 1 0\n")
        self.assertEqual(read_history(wide, "ask 1 0 1 0\nset 1 0\n"), [("ask", 1, (0, 1, 0)), ("set", 1, 0)])

    def test_no_deeds(self):
        for history in ([], ()):
            self.assertEqual(history_text(PLAN, history), "")
        self.assertEqual(read_history(PLAN, ""), [])
        self.assertIs(type(read_history(PLAN, "")), list)

    def test_all_deeds_there_and_back(self):
        for plan in PLANS:
            for at in range(0, len(slow.deeds(plan)), 100):
                deeds = slow.deeds(plan)[at:at + 100]
                text = history_text(plan, deeds)
                self.assertEqual(history_text(plan, tuple(deeds)), text)
                self.assertEqual(read_history(plan, text), deeds)
                self.assertEqual(text.split("\n")[:-1], [self.line(deed) for deed in deeds])

    def line(self, deed):
        word, at, given = deed
        return f"{word} {at} {given}" if word == "set" else "ask " + " ".join(map(str, (at, *given)))

    def test_just_100_lines_and_101(self):
        for many in (99, 100):
            deeds = [("set", 0, n % 3) for n in range(many)]
            self.assertEqual(read_history(PLAN, history_text(PLAN, deeds)), deeds)
        text = "set 0 1\n" * 100
        for more in ("set 0 1\n", "x\n", "\n", "set 0 1\nx\n", "set 0 1\n" * 900, "set 0 1\nmore", "more", "set 0 1", " "):
            self.wrong(100, read_history, PLAN, text + more)
        for at in (0, 50, 99):
            self.wrong(at, read_history, PLAN, "set 0 1\n" * at + "x\n" + "set 0 1\n" * 200)
        self.wrong(99, read_history, PLAN, "set 0 1\n" * 99 + "set 0 1")

    def test_too_long_a_history(self):
        for history in ([("set", 0, 1)] * 101, (None,) * 101):
            with self.assertRaises(BadHistory) as caught:
                history_text(PLAN, history)
            self.assertIsNone(caught.exception.index)

    def test_ends_without_its_line_feed(self):
        self.wrong(0, read_history, PLAN, "set 0 1")
        self.wrong(1, read_history, PLAN, "set 0 1\nset 0 2")
        for more in (" ", "x", "ask", "ask 0 1", "\r"):
            self.wrong(0, read_history, PLAN, more)
            self.wrong(2, read_history, PLAN, "set 0 1\nset 0 2\n" + more)

    def test_wrong_lines(self):
        for line in ("", " ", "set", "set 0", "set 0 3", "set 1 0", "set 0 1 0", "set 0 1 ", " set 0 1", "set  0 1", "set 0  1",
                     "Set 0 1", "set,0,1", "set 00 1", "set 0 01", "set 0 -1", "set a 1", "set 0 x", "set\t0 1", "set 0 1\r", "set(0,1)",
                     "ask", "ask 0", "ask 2 0", "ask 0 3", "ask 0 0 0", "ask 0 0 ", "ask  0 0", "ask p0 0", "ask 0 (0)", "ask 0 (0,)",
                     "ASK 0 0", "asks 0 0", "ask 0 00", "place none f0", "base 3", "0 1", "0 0 1", "sets 0 1",
                     *[f"set 0 {sign}" for sign in ALIKE], *[f"ask 0{sign}0" for sign in ALIKE], *[f"set 0 1{sign}" for sign in ALIKE]):
            self.wrong(0, read_history, PLAN, line + "\n")
            self.wrong(0, read_history, PLAN, line + "\nset 0 1\nx")
            self.wrong(2, read_history, PLAN, "set 0 1\nask 1 2\n" + line + "\n" + line + "\nask 1 2\n")

    def test_deeds_of_other_plans(self):
        for plan, text in ((Plan(2, 1, 1, ((WHO, None),)), "set 0 2\n"), (Plan(2, 1, 0, ((WHO, None),)), "set 0 1\n"),
                           (Plan(2, 2, 1, ((WHO, None),)), "ask 0 1\n"), (Plan(2, 1, 1, ((WHO, None),)), "ask 1 1\n"),
                           (Plan(2, 1, 1, ((WHO, None),)), "ask 0 2\n")):
            self.wrong(0, read_history, plan, text)
            self.assertEqual(len(read_history(PLAN, text)), 1)

    def test_what_is_no_string(self):
        for text in NO_TEXTS:
            self.wrong(0, read_history, PLAN, text)

    def test_wrong_histories(self):
        for history in [None, 0, "set 0 1\n", {}, *[odd for odd in ODD if not isinstance(odd, (list, tuple))]]:
            with self.assertRaises(BadHistory) as caught:
                history_text(PLAN, history)
            self.assertIsNone(caught.exception.index)
        for deed in (None, (), ("set", 0, 3), ("set", 0, True), ["set", 0, 1], ("ask", 2, (0,)), ("ask", 0, (0, 0)), *ODD):
            for at in range(3):
                with self.assertRaises(BadHistory) as caught:
                    history_text(PLAN, [("set", 0, 1)] * at + [deed, None])
                self.assertEqual(caught.exception.index, at)

    def test_wrong_plans_come_first(self):
        for plan in NO_PLANS:
            for call in (read_history, history_text):
                for given in ("set 0 1\n", [("set", 0, 1)], "x\n", None, 0, Liar(), Thrower()):
                    with self.assertRaises(BadPlan) as caught:
                        call(plan, given)
                    self.assertIsNone(caught.exception.part)

    def test_results_are_new_and_arguments_stay(self):
        history = [("set", 0, 1), ("ask", 1, (2,))]
        text = history_text(PLAN, history)
        self.assertEqual(history, [("set", 0, 1), ("ask", 1, (2,))])
        read_history(PLAN, text).clear()
        self.assertEqual(read_history(PLAN, text), history)
        self.assertIsNot(read_history(PLAN, text), read_history(PLAN, text))


class DefinitionsTest(unittest.TestCase):
    def test_where_they_are_defined(self):
        for given in (recipe_text, plan_text, history_text, read_recipe, read_plan, read_history):
            self.assertEqual(given.__module__, "shortkeys.texts")

    def test_by_keyword(self):
        self.assertEqual(read_recipe(text=recipe_text(recipe=WHO)), WHO)
        self.assertEqual(read_plan(text=plan_text(plan=PLAN)), PLAN)
        self.assertEqual(read_history(plan=PLAN, text=history_text(plan=PLAN, history=[])), [])


if __name__ == "__main__":
    unittest.main()
