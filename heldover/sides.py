"""Sides of partings: runs, executions, and executions from frames, and what they show with a story."""

from heldover.errors import InvalidCodes, Stuck
from heldover.execution import Execution, check_codes
from heldover.frames import is_frame
from heldover.indexes import is_epoch
from heldover.runs import Run, is_start
from heldover.stories import strictly_equal
from heldover.values import is_task_string
from heldover.versions import Version

# The words of sides, with how many items each has.
SIDE_SIZES = {"run": 5, "code": 6, "frame": 6}
STUCK = "stuck"


def are_named_codes(value):
    """Whether it is codes, each with its own name."""
    try:
        check_codes(value)
    except InvalidCodes:
        return False
    return True


def begins(version, codes, start):
    """Whether codes have the function of a start, with its number of parameters."""
    if not are_named_codes(codes) or not is_start(version, start):
        return False
    return start[0] in codes and codes[start[0]][1] == len(start[1])


def is_side(value):
    """Whether it is a side."""
    if not isinstance(value, tuple) or not value or not isinstance(value[0], str):
        return False
    word, *items = value
    if SIDE_SIZES.get(word) != len(value) or not isinstance(items[0], Version):
        return False
    *before, task, epoch, beginning = items
    if not is_task_string(task) or not is_epoch(epoch):
        return False
    if word == "run":
        return is_start(before[0], beginning)
    if word == "code":
        return begins(before[0], before[1], beginning)
    return are_named_codes(before[1]) and is_frame(before[1], beginning)


def task_of_side(side):
    """The name of the task of a side."""
    return side[-3]


def epoch_of_side(side):
    """The epoch of a side."""
    return side[-2]


def course_of(side, story):
    """The run or the execution of a side with a story."""
    word, version, *items = side
    if word == "run":
        task, epoch, start = items
        return Run(version, task, epoch, start, story)
    codes, task, epoch, beginning = items
    if word == "code":
        return Execution(version, codes, task, epoch, beginning, story)
    return Execution.from_frame(version, codes, task, epoch, beginning, story)


def shown_by(side, story):
    """What a side shows with a story."""
    try:
        course = course_of(side, story)
    except Stuck as error:
        return (STUCK, error.name, error.block)
    return (course.waits(), course.differences(), course.end())


def is_stuck(shown):
    """Whether this is what a side shows that is stuck."""
    return isinstance(shown[0], str)


def things_at(shown):
    """A dict from the indexes at which a side that is not stuck has something to what it has there."""
    waits, differences, _ = shown
    found = {index: ("waits", question) for index, question in waits.items()}
    found.update({index: ("different", *difference) for index, difference in differences.items()})
    return found


def last_thing(shown):
    """What a side has at the place None."""
    return shown if is_stuck(shown) else shown[2]


def parting_between(ours, theirs):
    """(place, what one has, what the other one has) for what two sides show, None if this is the same."""
    if not is_stuck(ours) and not is_stuck(theirs):
        here, there = things_at(ours), things_at(theirs)
        for index in sorted(set([*here, *there])):
            if not strictly_equal(here.get(index), there.get(index)):
                return (index, here.get(index), there.get(index))
    one, other = last_thing(ours), last_thing(theirs)
    # A side that is stuck has a tuple that no end is equal to.
    return None if strictly_equal(one, other) else (None, one, other)
