"""Which slots are live in a code, and which variables are needed at a place of the text."""

from heldover.errors import InvalidMap, NoPoint, UnknownName
from heldover.frames import is_map
from heldover.graphs import Texts
from heldover.living import live_masks, numbers_of
from heldover.needs import needed_at


def live_slots(code, code_map):
    """A dict from the numbers of all blocks to the sorted lists of the slots that are live there."""
    if not is_map(code, code_map):
        raise InvalidMap(code_map)
    live = live_masks(code, {block: row[1] for block, row in code_map.items()})
    return {block: numbers_of(mask) for block, mask in enumerate(live)}


def needed_variables(version, function, place):
    """The sorted list of the variables that are needed at a place of a function."""
    if function not in version:
        raise UnknownName(function)
    layers = Texts(version).located(function, place)
    if layers is None:
        raise NoPoint(place)
    return needed_at(layers, {})
