"""Keys: sets of names under which something is kept."""

from shortkeys.errors import BadName
from shortkeys.names import in_order, is_name


class Key:
    """A set of names."""

    def __init__(self, names=()):
        if not isinstance(names, (list, tuple)) or not all([is_name(name) for name in names]):
            raise BadName("not a list or tuple of names")
        self.held = in_order(names)

    @classmethod
    def of(cls, *names):
        """Return the key with these names."""
        return cls(names)

    @property
    def names(self):
        """The tuple of the names, in order."""
        return self.held

    def __or__(self, other):
        return Key(self.held + other.held)

    def __and__(self, other):
        return Key([name for name in self.held if name in other.held])

    def __sub__(self, other):
        # A recipe as the other operand has an error of its own for this.
        if not isinstance(other, Key):
            return NotImplemented
        return Key([name for name in self.held if name not in other.held])

    def __xor__(self, other):
        return (self - other) | (other - self)

    def __le__(self, other):
        if not isinstance(other, Key):
            return NotImplemented
        return all([name in other.held for name in self.held])

    def __lt__(self, other):
        if not isinstance(other, Key):
            return NotImplemented
        return self <= other and len(self.held) < len(other.held)

    def __contains__(self, x):
        return isinstance(x, str) and x in self.held

    def __len__(self):
        return len(self.held)

    def __eq__(self, other):
        return isinstance(other, Key) and self.held == other.held
