"""Data, questions, answers and stories."""

from heldover.indexes import is_epoch, is_index
from heldover.values import MOST_FIELDS, is_integer, is_name, is_tag, is_task_string

DEEPEST_DATUM = 12
MOST_OPERANDS = 5


def is_moment(value):
    """Whether it is an INTEGER from 0 on."""
    return is_integer(value) and value >= 0


def has_depth(value, deepest):
    """Whether it is a datum with at most so many tuples within each other."""
    if is_integer(value) or isinstance(value, bool) or is_task_string(value):
        return True
    if deepest == 0 or not isinstance(value, tuple) or not 1 <= len(value) <= MOST_FIELDS + 1:
        return False
    return is_tag(value[0]) and all([has_depth(part, deepest - 1) for part in value[1:]])


def is_datum(value):
    """Whether it is a datum."""
    return has_depth(value, DEEPEST_DATUM)


def are_data(value):
    """Whether it is a tuple of none to five data."""
    return isinstance(value, tuple) and len(value) <= MOST_OPERANDS and all([is_datum(datum) for datum in value])


def is_question(value):
    """Whether it is a question."""
    if not isinstance(value, tuple) or not value or not isinstance(value[0], str):
        return False
    word, *items = value
    if word in ("ask", "start"):
        return len(items) == 2 and is_name(items[0]) and are_data(items[1])
    if word == "send":
        return len(items) == 3 and is_task_string(items[0]) and is_name(items[1]) and is_datum(items[2])
    if word == "receive":
        return len(items) == 1 and is_name(items[0])
    if word == "sleep":
        return len(items) == 1 and is_moment(items[0])
    return word == "mark" and not items


def is_message_id(value):
    """Whether it is a tuple (task, index)."""
    return isinstance(value, tuple) and len(value) == 2 and is_task_string(value[0]) and is_index(value[1])


def is_message(value):
    """Whether it is a tuple (id, value), the answer to a receive."""
    return isinstance(value, tuple) and len(value) == 2 and is_message_id(value[0]) and is_datum(value[1])


def is_answer(question, value):
    """Whether it is an answer to the question; False if this is no question."""
    if not is_question(question):
        return False
    word = question[0]
    if word == "ask":
        return is_datum(value)
    if word == "receive":
        return is_message(value)
    return is_task_string(value) if word == "start" else value is True


def is_entry(value):
    """Whether it is an entry, perhaps that of an open ask."""
    if not isinstance(value, tuple) or len(value) != 3:
        return False
    question, answer, moment = value
    if answer is None and moment is None:
        return is_question(question) and question[0] == "ask"
    return is_answer(question, answer) and is_moment(moment)


def is_story(epoch, value):
    """Whether it is a story of the epoch."""
    if not is_epoch(epoch) or not isinstance(value, dict):
        return False
    return all([is_index(index) and index[0] == epoch and is_entry(entry) for index, entry in value.items()])


def strictly_equal(one, other):
    """Whether two values are equal, and no True or False of one stands where the other one has an integer."""
    if isinstance(one, tuple):
        if not isinstance(other, tuple) or len(one) != len(other):
            return False
        return all([strictly_equal(part, against) for part, against in zip(one, other)])
    if isinstance(one, bool):
        return isinstance(other, bool) and one == other
    if is_integer(one):
        return is_integer(other) and one == other
    if isinstance(one, str):
        return isinstance(other, str) and one == other
    return one is None and other is None


def same(one, other):
    """Whether two data, questions or answers are the same."""
    return (is_datum(one) or is_question(one) or is_message(one)) and strictly_equal(one, other)


def entries(story):
    """Yields tuples (index, entry) of a story in ascending order."""
    for index in sorted(story):
        yield index, story[index]
