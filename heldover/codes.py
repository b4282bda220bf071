"""Codes: operations, blocks and their ends, by the form."""

from heldover.errors import InvalidCode
from heldover.expressions import PAIR_OPERATORS
from heldover.indexes import GREATEST_NUMBER
from heldover.stories import MOST_OPERANDS, is_datum
from heldover.values import MOST_FIELDS, is_integer, is_label, is_name, is_tag

MOST_SLOTS = 100
MOST_PARTS = 20
MOST_STEPS = 400
MOST_BLOCKS = 1000
MOST_PARAMETERS = 5

# What stands behind the word of each end.
END_SHAPES = {
    "jump": ("block",),
    "branch": ("operand", "block", "block"),
    "return": ("operand",),
    "raise": ("name",),
    "become": ("name", "operands"),
    "done": (),
    "call": ("answer", "name", "operands", "block", "errors"),
    "ask": ("answer", "name", "operands", "block"),
    "send": ("operand", "name", "operand", "block"),
    "receive": ("answer", "name", "block"),
    "sleep": ("operand", "block"),
    "start": ("answer", "name", "operands", "block"),
    "mark": ("block", "block"),
    "both": ("block", "block", "slots", "slots", "block", "errors"),
}
WAITING_WORDS = ("call", "ask", "send", "receive", "sleep", "start", "mark", "both")
BEHIND_BOTH = 2
BODY_ENDS = (3, 4)


def is_below(value, limit):
    """Whether it is an INTEGER from 0 on that is less than the limit."""
    return is_integer(value) and 0 <= value < limit


def is_worded(value):
    """Whether it is a tuple that begins with a string."""
    return isinstance(value, tuple) and len(value) > 0 and isinstance(value[0], str)


def is_slot_pair(value, slots):
    """Whether it is ("slot", slot) with one of so many slots."""
    return is_worded(value) and len(value) == 2 and value[0] == "slot" and is_below(value[1], slots)


def is_operand(value, slots):
    """Whether it is an operand, with one of so many slots if it names one."""
    if is_slot_pair(value, slots):
        return True
    return is_worded(value) and len(value) == 2 and value[0] == "value" and is_datum(value[1])


def operation_operands(value):
    """The operands of a tuple with the word and the number of items of an operation with operands, or None."""
    word, *items = value
    if word == "self":
        return [] if not items else None
    if word == "tag":
        return items[1:] if 1 <= len(items) <= MOST_FIELDS + 1 and is_tag(items[0]) else None
    if word == "is":
        return items[1:] if len(items) == 2 and is_tag(items[0]) else None
    if word == "part":
        return items[1:] if len(items) == 2 and is_below(items[0], MOST_FIELDS) else None
    if word == "not":
        return items if len(items) == 1 else None
    return items if word in PAIR_OPERATORS and len(items) == 2 else None


def is_operation(value, slots):
    """Whether it is an operation, with so many slots."""
    if is_operand(value, slots):
        return True
    operands = operation_operands(value) if is_worded(value) else None
    return operands is not None and all([is_operand(operand, slots) for operand in operands])


def is_step(value, slots):
    """Whether it is a step (slot, operation)."""
    return isinstance(value, tuple) and len(value) == 2 and is_below(value[0], slots) and is_operation(value[1], slots)


def is_place(value, slots):
    """Whether it is a place, with so many slots."""
    if not isinstance(value, tuple) or len(value) > MOST_PARTS:
        return False
    return all([is_place_part(part, slots) for part in value])


def is_place_part(value, slots):
    """Whether it is a part (label, number) of a place; the number may be that in a slot."""
    if not isinstance(value, tuple) or len(value) != 2 or not is_label(value[0]):
        return False
    return is_below(value[1], GREATEST_NUMBER + 1) or is_slot_pair(value[1], slots)


def are_different_slots(value, slots):
    """Whether it is a tuple of different slots."""
    if not isinstance(value, tuple) or not all([is_below(slot, slots) for slot in value]):
        return False
    return len(set(value)) == len(value)


def are_errors(value, blocks):
    """Whether it is a tuple of tuples (NAME, block) with different names."""
    if not isinstance(value, tuple):
        return False
    for error in value:
        if not isinstance(error, tuple) or len(error) != 2 or not is_name(error[0]) or not is_below(error[1], blocks):
            return False
    return len(set([name for name, _ in value])) == len(value)


def are_operands(value, slots):
    """Whether it is a tuple of at most five operands."""
    if not isinstance(value, tuple) or len(value) > MOST_OPERANDS:
        return False
    return all([is_operand(operand, slots) for operand in value])


def end_item_has_form(what, item, slots, blocks):
    """Whether an item of an end has its form, with so many slots and blocks."""
    if what == "block":
        return is_below(item, blocks)
    if what == "operand":
        return is_operand(item, slots)
    if what == "name":
        return is_name(item)
    if what == "operands":
        return are_operands(item, slots)
    if what == "answer":
        return item is None or is_below(item, slots)
    return are_different_slots(item, slots) if what == "slots" else are_errors(item, blocks)


def is_end(value, slots, blocks):
    """Whether it is the end of a block, with so many slots and blocks."""
    if not is_worded(value):
        return False
    shape = END_SHAPES.get(value[0])
    if shape is None or len(value) != len(shape) + 1:
        return False
    return all([end_item_has_form(what, item, slots, blocks) for what, item in zip(shape, value[1:])])


def is_block(value, slots, blocks):
    """Whether it is a block by itself, with so many slots and blocks."""
    if not isinstance(value, tuple) or len(value) != 3:
        return False
    place, steps, end = value
    if place is not None and not is_place(place, slots):
        return False
    if not isinstance(steps, tuple) or len(steps) > MOST_STEPS:
        return False
    return all([is_step(step, slots) for step in steps]) and is_end(end, slots, blocks)


def stands_right(block, blocks):
    """Whether the place of a block goes with its end, and with the blocks to which a both leads."""
    place, steps, end = block
    if end[0] == "done":
        return place is None or len(place) > 0 and place[-1][1] in BODY_ENDS
    if end[0] not in WAITING_WORDS:
        return True
    if not place or place[-1][1] != 0 or steps:
        return False
    return end[0] != "both" or leads_right(place, end, blocks)


def leads_right(place, end, blocks):
    """Whether the blocks behind a both have the places that they must have, and no slot comes from both bodies."""
    _, _, _, ours, theirs, behind, errors = end
    if blocks[behind][0] != (*place[:-1], (place[-1][0], BEHIND_BOTH)):
        return False
    if any([blocks[block][0] is None for _, block in errors]):
        return False
    return not any([slot in theirs for slot in ours])


def is_code(value):
    """Whether it is a code, by the form."""
    if not isinstance(value, tuple) or len(value) != 4 or not is_name(value[0]):
        return False
    _, parameters, slots, blocks = value
    if not is_below(parameters, MOST_PARAMETERS + 1) or not is_below(slots, MOST_SLOTS + 1) or slots < parameters:
        return False
    if not isinstance(blocks, tuple) or not 1 <= len(blocks) <= MOST_BLOCKS:
        return False
    if not all([is_block(block, slots, len(blocks)) for block in blocks]) or blocks[0][0] != ():
        return False
    return all([stands_right(block, blocks) for block in blocks])


def is_codes(value):
    """Whether it is a dict from names of functions to codes, by the form."""
    if not isinstance(value, dict):
        return False
    return all([is_name(name) and is_code(code) for name, code in value.items()])


def points(code):
    """The numbers of the blocks with a place, ascending."""
    if not is_code(code):
        raise InvalidCode(code)
    return [number for number, block in enumerate(code[3]) if block[0] is not None]


def waiting(code):
    """The numbers of the blocks with a waiting end, ascending."""
    if not is_code(code):
        raise InvalidCode(code)
    return [number for number, block in enumerate(code[3]) if block[2][0] in WAITING_WORDS]
