"""Texts: how recipes, plans and histories are written, and what such texts are read as."""

from shortkeys.errors import BadRecipe, BadText
from shortkeys.keeping import MOST_DEEDS, check_history, is_deed
from shortkeys.keys import Key
from shortkeys.names import is_name
from shortkeys.plans import WORDS, Plan, check_plan, is_ascending, wrong_part
from shortkeys.recipes import HIGHEST, LETTERS, Recipe, leaves_of, name_of

MOST_SIGNS = 100
SIGNS = {"sum": "+", "less": "-", "times": "*", "same": "="}
JOINERS = {"+": "sum", "-": "less", "*": "times", "=": "same", "?": "when"}
LEAVES = {"f": "field", "c": "cell", "p": "place"}
# The numbers that may stand in a text of a plan or of a history: none of them is higher.
DIGITS = ("0", "1", "2", "3")
HEADS = ("base", "fields", "cells")


class Cursor:
    """A text of a form, and up to where it has been read."""

    def __init__(self, text):
        self.text = text
        self.at = 0

    def take(self, signs):
        """Return the next character, which has to be one of these signs, and go on behind it."""
        sign = self.text[self.at:self.at + 1]
        if sign == "" or sign not in signs:
            raise BadText(self.at)
        self.at += 1
        return sign

    def read_form(self):
        """Return the form that is written here, and go on behind it."""
        sign = self.take("012fcp(")
        if sign in LEAVES:
            word = LEAVES[sign]
            return (word, int(self.take("012"[:HIGHEST[word] + 1])))
        if sign != "(":
            return ("number", int(sign))
        parts = [self.read_form()]
        joiner = self.take("+-*=?")
        parts.append(self.read_form())
        if joiner == "?":
            self.take(":")
            parts.append(self.read_form())
        self.take(")")
        return tuple([JOINERS[joiner]] + parts)


class Draft:
    """What the lines of a text of a plan have told so far."""

    def __init__(self):
        self.heads = []
        self.pairs = ()
        self.rows = ()

    def takes(self, line):
        """Tell whether a text of a plan can go on with a line, and note what it tells."""
        words = line.split(" ")
        if len(self.heads) < len(HEADS):
            return self.takes_head(words)
        if words[0] == "place":
            return self.takes_place(words)
        return self.takes_drops(words)

    def takes_head(self, words):
        """Tell whether these are the words of the next line with a number, and note this."""
        if len(words) != 2 or words[0] != HEADS[len(self.heads)]:
            return False
        self.heads.append(digit_of(words[1]))
        base, fields, cells = self.heads + [2, 1, 0][len(self.heads):]
        # No places are wrong in any case: so they are what is found if nothing before them is wrong.
        return wrong_part(base, fields, cells, (), None) == "PLACES"

    def takes_place(self, words):
        """Tell whether these are the words of a place that can come next, and note its recipe and its rule."""
        if len(words) != 3 or self.rows:
            return False
        try:
            pair = (read_recipe(words[2]), read_rule(words[1]))
        except BadText:
            return False
        self.pairs = (*self.pairs, pair)
        base, fields, cells = self.heads
        return wrong_part(base, fields, cells, self.pairs, None) is None

    def takes_drops(self, words):
        """Tell whether these are the words of the drops of the next cell, and note them."""
        dropped = tuple([digit_of(word) for word in words[1:]])
        if words[0] != "drops" or not self.pairs or not is_ascending(dropped, len(self.pairs)):
            return False
        self.rows = (*self.rows, dropped)
        return len(self.rows) <= self.heads[2]

    def is_whole_plan(self):
        """Tell whether no line is missing."""
        return len(self.pairs) > 0 and len(self.rows) == self.heads[2]


def recipe_text(recipe):
    """Return the text of a recipe."""
    if not isinstance(recipe, Recipe):
        raise BadRecipe("not a recipe")
    return form_text(recipe.form)


def plan_text(plan):
    """Return the text of a plan."""
    check_plan(plan)
    lines = [f"base {plan.base}", f"fields {plan.fields}", f"cells {plan.cells}"]
    lines.extend([f"place {rule_text(rule)} {form_text(recipe.form)}" for recipe, rule in plan.places])
    lines.extend([row_text("drops", dropped) for dropped in plan.drops])
    return text_of(lines)


def history_text(plan, history):
    """Return the text of a history."""
    check_history(plan, history)
    return text_of([deed_text(deed) for deed in history])


def read_recipe(text):
    """Return the recipe that a text writes."""
    if not isinstance(text, str) or len(text) > MOST_SIGNS:
        raise BadText(None)
    cursor = Cursor(text)
    form = cursor.read_form()
    if cursor.at < len(text):
        raise BadText(cursor.at)
    if leaves_of(form) is None:
        raise BadText(None)
    return Recipe(form)


def read_plan(text):
    """Return the plan that a text writes."""
    lines, rest = lines_and_rest(text)
    draft = Draft()
    for row, line in enumerate(lines):
        if not draft.takes(line):
            raise BadText(row)
    if rest != "" or not draft.is_whole_plan():
        raise BadText(len(lines))
    base, fields, cells = draft.heads
    return Plan(base, fields, cells, draft.pairs, drops=draft.rows)


def read_history(plan, text):
    """Return the list of the deeds that a text writes."""
    check_plan(plan)
    lines, rest = lines_and_rest(text)
    deeds = []
    for row, line in enumerate(lines):
        deed = read_deed(line)
        if row >= MOST_DEEDS or not is_deed(deed, plan):
            raise BadText(row)
        deeds.append(deed)
    if rest != "":
        raise BadText(len(lines))
    return deeds


def form_text(form):
    """Return the text of a form."""
    word = form[0]
    if word == "number":
        return str(form[1])
    if word in LETTERS:
        return name_of(form)
    parts = [form_text(part) for part in form[1:]]
    if word == "when":
        return f"({parts[0]}?{parts[1]}:{parts[2]})"
    return f"({parts[0]}{SIGNS[word]}{parts[1]})"


def rule_text(rule):
    """Return the text of a rule."""
    if rule is None:
        return "none"
    return ",".join(["key"] + list(rule.names)) if isinstance(rule, Key) else rule


def deed_text(deed):
    """Return the line of a deed, without its line feed."""
    if deed[0] == "ask":
        return row_text("ask", (deed[1],) + deed[2])
    return row_text("set", deed[1:])


def row_text(word, numbers):
    """Return a word and numbers behind it, each behind a space."""
    return " ".join([word] + [str(number) for number in numbers])


def text_of(lines):
    """Return the text of lines, each with its line feed."""
    return "".join([line + "\n" for line in lines])


def lines_and_rest(text):
    """Return the list of the lines of a text, without their line feeds, and what follows the last one."""
    if not isinstance(text, str):
        raise BadText(0)
    pieces = text.split("\n")
    return pieces[:-1], pieces[-1]


def digit_of(word):
    """Return the number that a word writes, or None."""
    return int(word) if word in DIGITS else None


def read_rule(word):
    """Return the rule that a word writes."""
    if word == "none":
        return None
    if word in WORDS:
        return word
    parts = word.split(",")
    names = parts[1:]
    if parts[0] != "key" or not all([is_name(name) for name in names]) or Key(names).names != tuple(names):
        raise BadText(None)
    return Key(names)


def read_deed(line):
    """Return the deed that a line writes, or a tuple that is no deed."""
    words = line.split(" ")
    numbers = [digit_of(word) for word in words[1:]]
    if words[0] == "ask" and numbers:
        return ("ask", numbers[0], tuple(numbers[1:]))
    return (words[0], *numbers)
