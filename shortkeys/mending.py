"""Mending: the cheapest choice among offers after which a plan is sound."""

from shortkeys.errors import BadChoice, BadOffers
from shortkeys.judging import Mixed, Sound, judge
from shortkeys.keys import Key
from shortkeys.names import is_whole
from shortkeys.plans import Plan, check_plan, is_ascending, rule_fits

MOST_OFFERS = 5
HIGHEST_PRICE = 9


class Mended:
    """A good choice, why the plan after it is sound, and why those after all choices with a lesser price are not."""

    def __init__(self, choice, sound, against):
        self.choice = choice
        self.sound = judgement_copied(sound)
        self.against = judgements_copied(against)

    def shows(self, plan, offers):
        """Tell whether the choice is good, and all choices with a lesser price are not."""
        check_offers(plan, offers)
        if not is_choice(self.choice, offers):
            return False
        price = cost_of(self.choice, offers)
        cheaper = [choice for choice in ranked_choices(offers) if cost_of(choice, offers) < price]
        if not isinstance(self.sound, Sound) or not self.sound.shows(changed_plan(plan, offers, self.choice)):
            return False
        return are_against(self.against, cheaper, plan, offers)

    def __eq__(self, other):
        return (isinstance(other, Mended) and self.choice == other.choice and self.sound == other.sound
                and self.against == other.against)


class Hopeless:
    """Why the plan is not sound after any choice."""

    def __init__(self, against):
        self.against = judgements_copied(against)

    def shows(self, plan, offers):
        """Tell whether no choice is good."""
        check_offers(plan, offers)
        return are_against(self.against, ranked_choices(offers), plan, offers)

    def __eq__(self, other):
        return isinstance(other, Hopeless) and self.against == other.against


def plan_after(plan, offers, choice):
    """Return the plan after a choice."""
    check_offers(plan, offers)
    if not is_choice(choice, offers):
        raise BadChoice("not a choice among the offers")
    return changed_plan(plan, offers, choice)


def mend(plan, offers):
    """Return a Mended or a Hopeless for a plan and offers."""
    check_offers(plan, offers)
    against = {}
    for choice in ranked_choices(offers):
        found = judge(changed_plan(plan, offers, choice))
        if isinstance(found, Sound):
            price = cost_of(choice, offers)
            return Mended(choice, found, {row: against[row] for row in against if cost_of(row, offers) < price})
        against[choice] = found
    return Hopeless(against)


def least_cost(plan, offers):
    """Return the price of the choice of a Mended, or None for a Hopeless."""
    found = mend(plan, offers)
    return cost_of(found.choice, offers) if isinstance(found, Mended) else None


def check_offers(plan, offers):
    """Raise BadPlan or BadOffers if values of any kind are not a plan and offers for it."""
    check_plan(plan)
    if not isinstance(offers, tuple) or not 1 <= len(offers) <= MOST_OFFERS:
        raise BadOffers("not a tuple of one to five offers")
    if not all([is_offer(offer, plan) for offer in offers]):
        raise BadOffers("not all of them are offers for the plan")


def is_offer(offer, plan):
    """Tell whether a value of any kind is an offer for a plan."""
    if not isinstance(offer, tuple) or len(offer) != 4 or not isinstance(offer[0], str):
        return False
    word, at, given, price = offer
    if not is_whole(price, 1, HIGHEST_PRICE):
        return False
    if word == "drop":
        return is_whole(at, 0, plan.cells - 1) and is_whole(given, 0, len(plan) - 1)
    if not is_whole(at, 0, len(plan) - 1):
        return False
    if word == "rule":
        return rule_fits(given, plan.usable(at))
    return word == "mark" and given in plan.usable(at)


def is_choice(choice, offers):
    """Tell whether a value of any kind is a choice among offers."""
    return is_ascending(choice, len(offers))


def ranked_choices(offers):
    """Return the list of all choices among offers, by their prices, then as tuples."""
    rows = []
    for at in reversed(range(len(offers))):
        rows = [(at,)] + [(at, *row) for row in rows] + rows
    priced = [(cost_of(row, offers), row) for row in [(), *rows]]
    most = sum([offer[3] for offer in offers])
    return [row for price in range(most + 1) for due, row in priced if due == price]


def cost_of(choice, offers):
    """Return the price of a choice."""
    return sum([offers[at][3] for at in choice])


def changed_plan(plan, offers, choice):
    """Return the plan after a choice."""
    chosen = [offers[at] for at in choice]
    places = [(plan.places[place][0], rule_after(plan, place, chosen)) for place in range(len(plan))]
    drops = [dropped_after(plan, cell, chosen) for cell in range(plan.cells)]
    return Plan(plan.base, plan.fields, plan.cells, tuple(places), drops=tuple(drops))


def rule_after(plan, place, chosen):
    """Return the rule that a place has after some offers."""
    rules = [plan.places[place][1]] + [offer[2] for offer in chosen if offer[:2] == ("rule", place)]
    marks = [offer[2] for offer in chosen if offer[:2] == ("mark", place)]
    return rules[-1] | Key(marks) if isinstance(rules[-1], Key) else rules[-1]


def dropped_after(plan, cell, chosen):
    """Return the tuple of the places that are dropped when a cell changes, after some offers."""
    more = [offer[2] for offer in chosen if offer[:2] == ("drop", cell)]
    return tuple([place for place in range(len(plan)) if place in plan.drops[cell] or place in more])


def are_against(against, choices, plan, offers):
    """Tell whether a value of any kind is a dict from just these choices to a Mixed for the plan after each."""
    if not isinstance(against, dict) or len(against) != len(choices):
        return False
    # The keys are looked at themselves: a tuple with booleans equals one of integers.
    if not all([is_choice(choice, offers) and choice in choices for choice in against]):
        return False
    return all([isinstance(against[choice], Mixed) and against[choice].shows(changed_plan(plan, offers, choice))
                for choice in against])


def judgements_copied(against):
    """Return a new dict from the same choices to copies."""
    return {choice: judgement_copied(against[choice]) for choice in against}


def judgement_copied(found):
    """Return a new Sound or Mixed like this one, as whoever gave it may change it."""
    if isinstance(found, Sound):
        return Sound(found.tables)
    return Mixed(found.history) if isinstance(found, Mixed) else found
