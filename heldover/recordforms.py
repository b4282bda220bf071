"""Records of a log, by their form."""

from heldover.expressions import TOO_LONG
from heldover.indexes import is_epoch, is_index
from heldover.stories import are_data, is_answer, is_datum, is_message_id, is_moment, is_question
from heldover.values import BARRED_CODES, is_integer, is_name

# What stands behind the word of each record.
SHAPES = {
    "waited": ("number",),
    "version": ("number",),
    "started": ("text", "number", "function", "operands", "number"),
    "answered": ("text", "index", "question", "answer", "number"),
    "became": ("text", "function", "operands", "number"),
    "moved": ("texts", "number"),
    "at": ("number", "number", "number"),
    "gone": ("text", "end"),
    "task": ("text", "number", "epoch", "start", "told"),
    "lies": ("text", "text", "message", "datum"),
    "frame": ("text", "text", "tuple"),
}
LONGEST_STRING = 400
DEEPEST_RECORD = 40


def are_texts(value):
    """Whether it is a tuple of strings."""
    return isinstance(value, tuple) and all([isinstance(item, str) for item in value])


def is_over(value):
    """Whether it is the end of an ended task."""
    if not isinstance(value, tuple) or len(value) != 2 or not isinstance(value[0], str):
        return False
    if value[0] == "result":
        return is_datum(value[1])
    return value[0] == "error" and is_name(value[1])


def is_beginning(value):
    """Whether it is a start, by the form."""
    if not isinstance(value, tuple) or len(value) != 3:
        return False
    return is_name(value[0]) and are_data(value[1]) and is_moment(value[2])


def is_told(value):
    """Whether it is a tuple (index, question, answer, moment)."""
    if not isinstance(value, tuple) or len(value) != 4:
        return False
    return is_index(value[0]) and is_answer(value[1], value[2]) and is_moment(value[3])


def are_told(value):
    """Whether it is a tuple of such, sorted by their indexes, no two with one index."""
    if not isinstance(value, tuple) or not all([is_told(item) for item in value]):
        return False
    return all([one[0] < other[0] for one, other in zip(value[:-1], value[1:])])


def is_named_item(what, item):
    """Whether an item of a record that is no number and no string has its form."""
    if what == "function":
        return is_name(item)
    if what == "operands":
        return are_data(item)
    if what == "index":
        return is_index(item)
    if what == "question":
        return is_question(item)
    if what == "end":
        return is_over(item)
    if what == "start":
        return is_beginning(item)
    if what == "message":
        return is_message_id(item)
    return is_datum(item) if what == "datum" else are_told(item)


def item_has_form(what, item):
    """Whether an item of a record has its form; answers are looked at with their questions."""
    if what == "number":
        return is_moment(item)
    if what == "epoch":
        return is_epoch(item)
    if what == "text":
        return isinstance(item, str)
    if what == "texts":
        return are_texts(item)
    if what == "tuple":
        return isinstance(item, tuple)
    return what == "answer" or is_named_item(what, item)


def has_shape(value):
    """Whether it is a tuple with the word of a record, as many items, and their forms."""
    if not isinstance(value, tuple) or not value or not isinstance(value[0], str):
        return False
    shape = SHAPES.get(value[0])
    if shape is None or len(value) != len(shape) + 1:
        return False
    if not all([item_has_form(what, item) for what, item in zip(shape, value[1:])]):
        return False
    return value[0] != "answered" or is_answer(value[3], value[4])


def is_plain_string(value):
    """Whether a string has a text."""
    if len(value) > LONGEST_STRING:
        return False
    return all([" " <= sign <= "~" and ord(sign) not in BARRED_CODES for sign in value])


def has_text(value, room):
    """Whether it has a text, with at most so many tuples within each other."""
    if value is None or isinstance(value, bool):
        return True
    if is_integer(value):
        return -TOO_LONG < value < TOO_LONG
    if isinstance(value, str):
        return is_plain_string(value)
    if not isinstance(value, tuple) or room == 0:
        return False
    return all([has_text(item, room - 1) for item in value])


def is_record(value):
    """Whether it is a record of a log."""
    return has_shape(value) and has_text(value, DEEPEST_RECORD)
