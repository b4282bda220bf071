"""Which slots are needed, and by which flows."""

from heldover.codes import is_below, is_code
from heldover.errors import InvalidCode, InvalidFrame, NoPoint, NoSlot
from heldover.flowing import Flowing
from heldover.frames import is_frame
from heldover.living import numbers_of

ENTERED_WORDS = ("call", "both")


def check_block(code, block):
    """Raises the errors of a code, and of a block of it."""
    if not is_code(code):
        raise InvalidCode(code)
    if not is_below(block, len(code[3])):
        raise NoPoint(block)


def needed_slots(code, block, *, entered=False):
    """The sorted list of the slots that are needed at a block, perhaps one that a branch has entered."""
    check_block(code, block)
    if entered and code[3][block][2][0] not in ENTERED_WORDS:
        raise NoPoint(block)
    flowing = Flowing(code)
    masks = flowing.needed()
    return numbers_of(flowing.needed_inside(block, masks) if entered else masks[block])


def flow(code, block, slot):
    """The least of the shortest flows that begin with a slot at a block, or None."""
    check_block(code, block)
    if not is_below(slot, code[2]):
        raise NoSlot(slot)
    flowing = Flowing(code)
    layers = flowing.by_distance()
    distances = [number for number, masks in enumerate(layers) if masks[block] >> slot & 1]
    if not distances:
        return None
    found = [(block, slot)]
    for masks in reversed(layers[:distances[0]]):
        block, slot = found[-1]
        found.append([(one, other) for one, other in flowing.flows_from(block, slot) if masks[one] >> other & 1][0])
    return found


def is_flow(code, value):
    """Whether a value of any kind is a flow of a code."""
    if not is_code(code):
        raise InvalidCode(code)
    if not isinstance(value, (list, tuple)) or not value:
        return False
    for pair in value:
        if not isinstance(pair, tuple) or len(pair) != 2:
            return False
        if not is_below(pair[0], len(code[3])) or not is_below(pair[1], code[2]):
            return False
    flowing = Flowing(code)
    if not flowing.counts(value[-1][0], value[-1][1]):
        return False
    return all([after in flowing.flows_from(pair[0], pair[1]) for pair, after in zip(value[:-1], value[1:])])


class Lessening:
    """Leaves out of frames of codes what is not needed."""

    def __init__(self, codes):
        self.code_table = codes
        self.known = {}

    def needed_at(self, name, block, inner):
        """The slots that are needed where a branch stands."""
        if name not in self.known:
            flowing = Flowing(self.code_table[name])
            self.known[name] = (flowing, flowing.needed())
        flowing, masks = self.known[name]
        return masks[block] if inner is None else flowing.needed_inside(block, masks)

    def lessened_frame(self, frame):
        """The least frame of a frame."""
        name, branch = frame
        return (name, self.lessened_branch(name, branch))

    def lessened_branch(self, name, branch):
        """A branch with nothing in the slots that are not needed; a body that has ended as it is."""
        if branch[0] == "ended":
            return branch
        slots, block, inner = branch
        mask = self.needed_at(name, block, inner)
        kept = tuple([value if mask >> slot & 1 else None for slot, value in enumerate(slots)])
        if inner is None:
            return (kept, block, None)
        if isinstance(inner[0], str):
            return (kept, block, self.lessened_frame(inner))
        return (kept, block, tuple([self.lessened_branch(name, body) for body in inner]))


def least_frame(codes, frame):
    """The least frame: nothing in the slots that are not needed."""
    if not is_frame(codes, frame):
        raise InvalidFrame(frame)
    return Lessening(codes).lessened_frame(frame)
