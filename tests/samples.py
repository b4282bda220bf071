"""Small versions for tests."""

from heldover.versions import Version

COLOR = ("color", (("Red", ()), ("Mix", ("int", "task"))))
DOORS = (("price", ("int",), "int"), ("flag", (), "bool"), ("pick", (), "color"))
KEYS = (("paid", "bool"), ("num", "int"), ("hue", "color"))
VARIABLES = (("x", "int"), ("y", "int"), ("ok", "bool"), ("no", "bool"), ("t", "task"), ("c", "color"))


def function(name, *body, params=(("n", "int"),), inner=VARIABLES, result="int"):
    """A function with this body."""
    return (name, params, inner, result, body)


def module(*functions, name="shop", uses=(), kinds=(COLOR,), doors=DOORS, keys=KEYS):
    """A module with these functions."""
    return (name, uses, kinds, doors, keys, functions)


def version_of(*functions):
    """A version of one module with these functions."""
    return Version([module(*functions)])


def version_with(*body):
    """A version whose only function has this body."""
    return version_of(function("run", *body))
