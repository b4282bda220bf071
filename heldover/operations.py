"""Operations of codes and terms: how they are made up, and the values that they have."""

from heldover.codes import operation_operands
from heldover.expressions import INTEGER_OPERATORS, operate
from heldover.stories import is_datum, strictly_equal
from heldover.values import is_integer

OPERANDS = ("slot", "value")
# How many items of an operation stand before its operands, the word itself counted.
HEAD_LENGTHS = {"tag": 2, "is": 2, "part": 2}


def head_of(operation):
    """What stands before the operands of an operation: its word, with a tag or a number."""
    return operation[:HEAD_LENGTHS.get(operation[0], 1)]


def inner_of(operation):
    """The operands of an operation that is no operand itself."""
    return operation_operands(operation)


def is_mere_operand(operation):
    """Whether the operation is an operand itself."""
    return operation[0] in OPERANDS


def slot_reads(operation):
    """The slots that an operation reads, from left to right."""
    if is_mere_operand(operation):
        return [operation[1]] if operation[0] == "slot" else []
    return [operand[1] for operand in inner_of(operation) if operand[0] == "slot"]


def operated(head, values):
    """The value of an operation for the values of its operands, None if it has none."""
    word = head[0]
    if word in INTEGER_OPERATORS or word == "less":
        return operate(word, values) if all([is_integer(value) for value in values]) else None
    if word in ("and", "or", "not"):
        return operate(word, values) if all([isinstance(value, bool) for value in values]) else None
    if word == "same":
        return strictly_equal(values[0], values[1])
    if word == "tag":
        made = (head[1], *values)
        return made if is_datum(made) else None
    if word == "is":
        return isinstance(values[0], tuple) and values[0][0] == head[1]
    return field_of(values[0], head[1])


def field_of(value, number):
    """A field of a datum, None if it has no such field."""
    if not isinstance(value, tuple) or number + 1 >= len(value):
        return None
    return value[number + 1]
