"""What a frame of codes shows of the functions of the text, by maps."""

from heldover.codes import is_below
from heldover.graphs import Texts
from heldover.indexes import GREATEST_NUMBER
from heldover.termforms import VARIABLE, recipe_values


def parts_at(place, slots):
    """The parts of a place, with the numbers in its slots; None if one of these is no number of a part."""
    found = []
    for label, number in place:
        if isinstance(number, tuple):
            number = slots[number[1]]
        if not is_below(number, GREATEST_NUMBER + 1):
            return None
        found.append((label, number))
    return tuple(found)


def copied_frames(frames):
    """A copy of a list of (function, label, values) that shares no dict with it."""
    return [(function, label, dict(values)) for function, label, values in frames]


class Showing:
    """Gathers what a frame shows."""

    def __init__(self, version, codes, maps):
        self.version = version
        self.texts = Texts(version)
        self.code_table = codes
        self.map_table = maps
        self.found = {}

    def frames_at(self, name, block, slots):
        """The (function, label, values) of a function and of those that are inlined where it stands.

        None if the block has no position in the text.
        """
        place = self.code_table[name][3][block][0]
        layers = self.texts.located(name, place) if name in self.version else None
        if layers is None:
            return None
        known = recipe_values(self.map_table[name][block][1], slots)
        found = []
        for layer in layers:
            values = {}
            for variable in layer.graph.variables:
                value = known.get((VARIABLE, layer.path, variable))
                values[variable] = None if value is None else ("value", value)
            found.append((layer.graph.owner, layer.current_step().parts[-1][0], values))
        return found

    def show_branch(self, name, branch, before, above):
        """Shows what a branch shows; before has the epoch and the parts of the calls around it, above their frames."""
        if branch[0] == "ended":
            return
        slots, block, inner = branch
        if inner is not None and not isinstance(inner[0], str):
            for body in inner:
                self.show_branch(name, body, before, above)
            return
        parts, frames = parts_at(self.code_table[name][3][block][0], slots), self.frames_at(name, block, slots)
        if parts is None or frames is None:
            return
        if inner is None:
            index = (*before, *parts)
            self.found[index] = copied_frames([*above, *frames])
        else:
            self.show_branch(inner[0], inner[1], (*before, *parts), [*above, *frames])
