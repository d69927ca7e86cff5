"""The cheapest key for a place, by the prices of the names."""

from shortkeys.errors import BadPrices
from shortkeys.keys import Key
from shortkeys.names import copy_of, is_pair, is_whole, name_rows
from shortkeys.plans import check_plan_and_place
from shortkeys.values import dropping_key, is_split, is_table, split_in, table_in, views_of

HIGHEST_PRICE = 9


class Cheapest:
    """A key that is enough for a place, its table, and splits for all keys with a lesser price."""

    def __init__(self, key, table, splits):
        self.key = key
        self.table = copy_of(table)
        self.splits = list(splits)

    def shows(self, plan, place, prices):
        """Tell whether the key is as cheap as any that is enough, with its table and all splits."""
        check_prices(plan, place, prices)
        if not isinstance(self.key, Key) or not self.key <= Key(list(prices)):
            return False
        price = price_of(self.key, prices)
        cheaper = [key for key in ranked_keys(prices) if price_of(key, prices) < price]
        table_fits = is_table(self.table, plan, place, self.key | dropping_key(plan, place))
        return table_fits and are_cheaper(self.splits, cheaper, plan, place)

    def __eq__(self, other):
        return (isinstance(other, Cheapest) and self.key == other.key and self.table == other.table
                and self.splits == other.splits)


class Never:
    """That no key is enough for a place: two situations that are one to the key of all names with prices."""

    def __init__(self, one, other):
        self.one = one
        self.other = other

    def shows(self, plan, place, prices):
        """Tell whether the two situations split the place under all names with prices."""
        check_prices(plan, place, prices)
        return is_split((self.one, self.other), plan, place, Key(list(prices)) | dropping_key(plan, place))

    def __eq__(self, other):
        return isinstance(other, Never) and self.one == other.one and self.other == other.other


def cheapest(plan, place, prices):
    """Return a Cheapest or a Never for a place and prices."""
    check_prices(plan, place, prices)
    views = views_of(plan, place)
    cells = dropping_key(plan, place)
    whole = split_in(views, (Key(list(prices)) | cells).names)
    if whole is not None:
        return Never(whole[0], whole[1])
    pairs = [(key, split_in(views, (key | cells).names)) for key in ranked_keys(prices)]
    first = [key for key, pair in pairs if pair is None][0]
    splits = [(key, pair) for key, pair in pairs if price_of(key, prices) < price_of(first, prices)]
    return Cheapest(first, table_in(views, (first | cells).names, plan.base), splits)


def least_price(plan, place, prices):
    """Return the price of the key of a Cheapest, or None for a Never."""
    found = cheapest(plan, place, prices)
    return price_of(found.key, prices) if isinstance(found, Cheapest) else None


def check_prices(plan, place, prices):
    """Raise BadPlan, BadPlace or BadPrices if values of any kind are not a plan, a place and prices for it."""
    check_plan_and_place(plan, place)
    if not are_prices(prices, plan.usable(place)):
        raise BadPrices("not prices of names for the place")


def are_prices(prices, usable):
    """Tell whether a value of any kind is a dict from one or more usable names to prices."""
    if not isinstance(prices, dict) or len(prices) == 0:
        return False
    return all([name in usable and is_whole(prices[name], 1, HIGHEST_PRICE) for name in prices])


def price_of(key, prices):
    """Return the sum of the prices of the names of a key."""
    return sum([prices[name] for name in key.names])


def ranked_keys(prices):
    """Return the list of all keys of names with prices, by their prices, then by their lengths, then by their names."""
    keys = [Key(names) for names in name_rows(Key(list(prices)).names)]
    priced = [(price_of(key, prices), key) for key in keys]
    most = sum([prices[name] for name in prices])
    return [key for price in range(most + 1) for due, key in priced if due == price]


def are_cheaper(splits, keys, plan, place):
    """Tell whether a value of any kind is a list of pairs of just these keys, in order, and of splits for them."""
    if not isinstance(splits, list) or len(splits) != len(keys) or not all([is_pair(split) for split in splits]):
        return False
    cells = dropping_key(plan, place)
    return all([isinstance(split[0], Key) and split[0] == key and is_split(split[1], plan, place, key | cells)
                for split, key in zip(splits, keys)])
