"""Names of fields, cells and places in their order, and the test for integers that all files share."""

FIELD_NAMES = ("f0", "f1", "f2")
CELL_NAMES = ("c0", "c1")
PLACE_NAMES = ("p0", "p1")
NAMES = ("f0", "f1", "f2", "c0", "c1", "p0", "p1")


def is_whole(value, low, high):
    """Tell whether a value of any kind is an integer, and no boolean, from low to high."""
    return isinstance(value, int) and not isinstance(value, bool) and low <= value <= high


def is_name(value):
    """Tell whether a value of any kind is a name."""
    # The order of these two matters: an object of another class may claim to equal a name.
    return isinstance(value, str) and value in NAMES


def in_order(names):
    """Return the tuple of the names in a list or tuple, each once, in their order."""
    return tuple([name for name in NAMES if name in names])


def usable_names(fields, cells, place):
    """Return the names of so many fields and cells, and of the places before this one."""
    return FIELD_NAMES[:fields] + CELL_NAMES[:cells] + PLACE_NAMES[:place]
