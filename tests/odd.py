"""Values of many kinds that the program is not made for."""


class Liar:
    """Claims to equal everything, and has no hash."""

    def __eq__(self, other):
        return True


class Thrower:
    """Cannot be compared or hashed at all."""

    def __eq__(self, other):
        raise RuntimeError("compared")

    def __hash__(self):
        raise RuntimeError("hashed")


def nobody():
    return 0


# None of these is an integer from 0 to 3, a name, a tuple with something in it, a word or None.
ODD = [
    True, False, -1, 4, 10 ** 30, -10 ** 30, "", "0", "1", "F0", "f3", "c2", "p2", "f", "f00", "f0 ", " f0", "names",
    b"", b"f0", [], [0], ["f0"], [1, 2], {}, {"f0": 0}, {0: 1}, set(), {"f0"}, frozenset(["f0"]), (), range(2),
    object(), object, int, nobody, NotImplemented, Ellipsis, 1j, Liar(), Thrower(), iter(["f0"]), memoryview(b"f0"),
]

# The same, with what fits elsewhere, for where no tuple, no integer, or no string fits.
NO_INTEGERS = [None, "reads", "f0", (0,), ("number", 0)] + [
    value for value in ODD if not isinstance(value, int) or isinstance(value, bool)]
NO_STRINGS = [None, 0, 1, (0,), ("f0",)] + [value for value in ODD if not isinstance(value, str)]
NO_TUPLES = [None, 0, 1, "reads", "f0"] + [value for value in ODD if not isinstance(value, tuple)]
