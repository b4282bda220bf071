"""Records of a machine: which operation each one tells of."""

from heldover.stories import is_moment, is_question
from heldover.values import is_integer, is_task_string

# The words of records, with how many items each has.
RECORD_SIZES = {"waited": 2, "version": 2, "started": 6, "answered": 6, "became": 5, "moved": 3}


def has_record_form(value):
    """Whether it is a tuple with the word of a record and as many items."""
    if not isinstance(value, tuple) or not value or not isinstance(value[0], str):
        return False
    return RECORD_SIZES.get(value[0]) == len(value)


def operation_of(machine, record):
    """The operation of which a record of any value tells, None if it tells of none that can happen now."""
    if not has_record_form(record):
        return None
    word, *items = record
    if word == "waited":
        return ("wait", items[0] - machine.now) if is_moment(items[0]) and items[0] >= machine.now else None
    if word == "version":
        return ("version",) if is_integer(items[0]) else None
    if word == "started":
        return ("launch", items[0], items[2], items[3])
    if word == "moved":
        return ("move", items[0], items[1])
    if word == "became":
        living = is_task_string(items[0]) and items[0] in machine.names()
        return ("do", items[0], (machine.run(items[0]).epoch,)) if living else None
    if not is_question(items[2]):
        return None
    return ("answer", items[0], items[1], items[3]) if items[2][0] == "ask" else ("do", items[0], items[1])
