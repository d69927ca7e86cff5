"""The errors of the package."""


class KeepError(ValueError):
    """What all errors of the package are."""


class BadRecipe(KeepError):
    """Something is no recipe, no form, or no operand of one, or its form is too long."""


class BadName(KeepError):
    """Something is no list or tuple of names."""


class BadNumber(KeepError):
    """Something is no number that is possible here."""


class BadPlan(KeepError):
    """Something is no plan; part is the word for what is wrong in one, or None."""

    def __init__(self, part):
        super().__init__(f"wrong plan, part {part}")
        self.part = part


class BadPlace(KeepError):
    """Something is not the number of a place of the plan."""


class BadSituation(KeepError):
    """Something is no situation of the plan."""


class BadKey(KeepError):
    """Something is no key, or no rule, for the place."""


class BadStock(KeepError):
    """Something is no stock of the plan."""


class BadDeed(KeepError):
    """Something is no deed of the plan."""


class BadHistory(KeepError):
    """Something is no history; index is that of its first wrong deed, or None."""

    def __init__(self, index):
        super().__init__(f"wrong history, index {index}")
        self.index = index


class BadPrices(KeepError):
    """Something is no dict of prices for the place."""


class BadOffers(KeepError):
    """Something is no tuple of offers for the plan."""


class BadChoice(KeepError):
    """Something is no choice among the offers."""


class BadPair(KeepError):
    """Two plans cannot be compared."""


class TooLarge(KeepError):
    """More pairs of stocks come about than are looked at."""


class NothingDone(KeepError):
    """There is no deed that can be taken back."""


class BadText(KeepError):
    """A text cannot be read; row is where it goes wrong, or None."""

    def __init__(self, row):
        super().__init__(f"wrong text, row {row}")
        self.row = row
