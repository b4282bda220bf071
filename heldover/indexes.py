"""Indexes: the names of the steps of a task."""

from heldover.errors import InvalidIndex
from heldover.values import is_decimal, is_integer, is_label

GREATEST_EPOCH = 10 ** 9
GREATEST_NUMBER = 9
EPOCH_DIGITS = 10


def is_epoch(value):
    """Whether it is an INTEGER from 0 to 10 ** 9."""
    return is_integer(value) and 0 <= value <= GREATEST_EPOCH


def is_part(value):
    """Whether it is a tuple (label, number)."""
    if not isinstance(value, tuple) or len(value) != 2 or not is_label(value[0]):
        return False
    return is_integer(value[1]) and 0 <= value[1] <= GREATEST_NUMBER


def is_index(value):
    """Whether it is an index."""
    if not isinstance(value, tuple) or len(value) < 2 or not is_epoch(value[0]):
        return False
    return all([is_part(part) for part in value[1:]])


def index_text(index):
    """The text of an index."""
    if not is_index(index):
        raise InvalidIndex(index)
    parts = [f"{label}.{number}" for label, number in index[1:]]
    return " ".join([str(index[0]), *parts])


def parse_index(text):
    """The index with this text."""
    if not isinstance(text, str):
        raise InvalidIndex(text)
    words = text.split(" ")
    epoch, *parts = words
    # No text is read as a number before it is short enough and made of digits.
    if not parts or not is_decimal(epoch, EPOCH_DIGITS) or not all([is_part_text(part) for part in parts]):
        raise InvalidIndex(text)
    index = (int(epoch), *[parsed_part(part) for part in parts])
    if not is_index(index):
        raise InvalidIndex(text)
    return index


def is_part_text(text):
    """Whether it is a label, a period and one digit."""
    label, _, number = text.partition(".")
    return is_label(label) and is_decimal(number, 1)


def parsed_part(text):
    """The part with this text."""
    label, _, number = text.partition(".")
    return (label, int(number))
