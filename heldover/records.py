"""Records of a log: their texts, the lines of a file, and its good prefix."""

from heldover.errors import InvalidRecord
from heldover.expressions import LONGEST_INTEGER
from heldover.recordforms import DEEPEST_RECORD, is_plain_string, is_record
from heldover.values import DIGITS, is_decimal

QUOTE = '"'
WORDS = (("true", True), ("false", False), ("none", None))
MODULUS = 65521


def value_text(value):
    """The text of a tuple, or of what stands in one."""
    if isinstance(value, tuple):
        return f"({', '.join([value_text(item) for item in value])})"
    if isinstance(value, str):
        return f"{QUOTE}{value}{QUOTE}"
    if value is None:
        return "none"
    if isinstance(value, bool):
        return "true" if value else "false"
    return str(value)


def read_value(text, at, room):
    """The value whose text begins at a position, and the position behind it, as a tuple; None if there is none.

    At most so many tuples stand within each other.
    """
    sign = text[at:at + 1]
    if sign == "(":
        return read_items(text, at + 1, room - 1) if room > 0 else None
    if sign == QUOTE:
        return read_string(text, at + 1)
    for word, meant in WORDS:
        if text[at:at + len(word)] == word:
            return (meant, at + len(word))
    return read_integer(text, at)


def read_items(text, at, room):
    """The tuple whose items begin at a position, and the position behind it; None if there is none."""
    found = []
    if text[at:at + 1] == ")":
        return ((), at + 1)
    while True:
        read = read_value(text, at, room)
        if read is None:
            return None
        item, at = read
        found.append(item)
        if text[at:at + 1] == ")":
            return (tuple(found), at + 1)
        if text[at:at + 2] != ", ":
            return None
        at += 2


def read_string(text, at):
    """The string whose characters begin at a position, and the position behind it; None if there is none."""
    behind = text.find(QUOTE, at)
    if behind < 0 or not is_plain_string(text[at:behind]):
        return None
    return (text[at:behind], behind + 1)


def read_integer(text, at):
    """The integer whose text begins at a position, and the position behind it; None if there is none."""
    first = at + 1 if text[at:at + 1] == "-" else at
    behind = first
    while behind < len(text) and text[behind] in DIGITS:
        behind += 1
    digits = text[first:behind]
    if not is_decimal(digits, LONGEST_INTEGER) or digits == "0" and first > at:
        return None
    return (int(text[at:behind]), behind)


def record_text(record):
    """The text of a record."""
    if not is_record(record):
        raise InvalidRecord(None)
    return value_text(record)


def read_record(text):
    """The record with this text."""
    read = read_value(text, 0, DEEPEST_RECORD) if isinstance(text, str) else None
    if read is None or read[1] != len(text) or not is_record(read[0]):
        raise InvalidRecord(None)
    return read[0]


def checksum(number, text):
    """The checksum of a line with this number and this text of a record."""
    signs = f"{number} {text}"
    return sum([place * ord(sign) for place, sign in enumerate(signs, start=1)]) % MODULUS


def line_of(number, text):
    """The line with this number and this text of a record, without its line feed."""
    return f"{number} {checksum(number, text)} {text}"


def line_text(number, record):
    """The line of a record, with its line feed."""
    return f"{line_of(number, record_text(record))}\n"


def lines_text(records):
    """The file of records."""
    return "".join([line_text(number, record) for number, record in enumerate(records, start=1)])


def record_in(number, line):
    """The record in the line with this number, None if it is no such line."""
    text = line.partition(" ")[2].partition(" ")[2]
    if line != line_of(number, text):
        return None
    try:
        return read_record(text)
    except InvalidRecord:
        return None


def good_records(text):
    """The list of the records of the good prefix."""
    found = []
    for line in text.split("\n")[:-1]:
        record = record_in(len(found) + 1, line)
        if record is None:
            break
        found.append(record)
    return found


def good_prefix(text):
    """The good prefix of a string."""
    return lines_text(good_records(text))
