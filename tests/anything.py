"""Values of all sorts, to be passed where anything may be passed."""


class Thing:
    """An object that is equal to nothing, not even to itself, and cannot be compared without notice."""

    def __eq__(self, other):
        raise AssertionError("compared")

    __hash__ = object.__hash__


def nested(depth, last=(), kind=tuple):
    """A tuple or a list in a tuple or a list, and so on."""
    value = last
    for _ in range(depth):
        value = kind([value])
    return value


def tagged(depth, tag="Red"):
    """A datum with so many tuples within each other."""
    value = 0
    for _ in range(depth):
        value = (tag, value)
    return value


ODD = (
    None, True, False, 0, 1, -1, 10 ** 5000, "", "a", "A", "self", "\n", b"a", (), [], {}, set(), frozenset(), object(),
    Thing(), len, ("a",), ["a"], {"a": 1}, (Thing(),), ([],), ({},), ((),), (None, None), (set(), set(), set()),
    nested(1200), nested(1200, kind=list), tagged(1200), (nested(1200), nested(1200)), ("a", nested(1200)),
)
