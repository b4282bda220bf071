"""Positions of the text, and the places that stand for them."""

from heldover.errors import UnknownName
from heldover.graphs import Texts
from heldover.termforms import VARIABLE


def variables_in_force(layers):
    """The list of the variables of the functions of these layers."""
    return [(VARIABLE, layer.path, name) for layer in layers for name in layer.graph.variables]


def located_at(version, function, place):
    """The layers on the way to the position for which a place stands, or None."""
    if function not in version:
        raise UnknownName(function)
    return Texts(version).located(function, place)


def position_of(version, function, place):
    """A tuple that is equal for two places exactly if they stand for one position; None if it stands for none."""
    layers = located_at(version, function, place)
    return None if layers is None else layers[-1].whole_parts()


def variables_at(version, function, place):
    """The sorted list of the variables in force at the position for which a place stands, or None."""
    layers = located_at(version, function, place)
    return None if layers is None else sorted(variables_in_force(layers))
