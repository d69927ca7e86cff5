"""Names of fields, cells and places in their order, and the plain tests and copies that all files share."""

FIELD_NAMES = ("f0", "f1", "f2")
CELL_NAMES = ("c0", "c1")
PLACE_NAMES = ("p0", "p1")
NAMES = ("f0", "f1", "f2", "c0", "c1", "p0", "p1")


def is_integer(value):
    """Tell whether a value of any kind is an integer, and no boolean."""
    return isinstance(value, int) and not isinstance(value, bool)


def is_whole(value, low, high):
    """Tell whether a value of any kind is an integer, and no boolean, from low to high."""
    return is_integer(value) and low <= value <= high


def is_numbers(value, many, base):
    """Tell whether a value of any kind is a tuple of so many numbers below the base."""
    return isinstance(value, tuple) and len(value) == many and all([is_whole(n, 0, base - 1) for n in value])


def is_pair(value):
    """Tell whether a value of any kind is a tuple of two."""
    return isinstance(value, tuple) and len(value) == 2


def is_name(value):
    """Tell whether a value of any kind is a name."""
    # The order of these two matters: an object of another class may claim to equal a name.
    return isinstance(value, str) and value in NAMES


def in_order(names):
    """Return the tuple of the names in a list or tuple, each once, in their order."""
    return tuple([name for name in NAMES if name in names])


def usable_names(fields, cells, place):
    """Return the names of so many fields and cells, and of the places before this one."""
    return FIELD_NAMES[:fields] + CELL_NAMES[:cells] + PLACE_NAMES[:place]


def name_rows(names):
    """Return the list of all tuples of some of these names, the shorter ones first, then in the order of the names."""
    rows = [()]
    # Before each row without the name comes the one with it: so rows of one length are in order in the end.
    for name in names[::-1]:
        rows = [(name, *row) for row in rows] + rows
    return [row for many in range(len(names) + 1) for row in rows if len(row) == many]


def copy_of(table):
    """Return a new dict like this one."""
    return {row: table[row] for row in table}
