"""Executions: what codes do with a story."""

from heldover.codes import is_codes
from heldover.courses import MARK
from heldover.errors import (
    InvalidCodes, InvalidEpoch, InvalidFrame, InvalidStart, InvalidStory, InvalidTask, NoFrame, Stuck,
)
from heldover.executing import Doing, Level, do_function, go_on
from heldover.frames import is_frame
from heldover.indexes import is_epoch
from heldover.runs import copied, end_of, is_start
from heldover.stories import entries, is_story
from heldover.values import is_task_string


class Held:
    """A frame in the place of a start."""

    def __init__(self, frame):
        self.frame_held = frame


def check_codes(codes):
    """Raises the error of codes, also of a code that has another name."""
    if not is_codes(codes):
        raise InvalidCodes(None)
    for name in sorted(codes):
        if codes[name][0] != name:
            raise InvalidCodes(name)


def check_beginning(version, codes, start):
    """Raises the error of a start or of a frame from which an execution is to begin."""
    if isinstance(start, Held):
        if not is_frame(codes, start.frame_held):
            raise InvalidFrame(start.frame_held)
    elif not is_start(version, start):
        raise InvalidStart(start)


def outcome_of(doing, beginning):
    """Does the blocks from a start or a frame on; returns the outcome."""
    if isinstance(beginning, Held):
        name, branch = beginning.frame_held
        return go_on(doing, Level(doing.code_table[name], list(branch[0]), (doing.epoch,), 0, []), branch)
    code = doing.code_table[beginning[0]]
    slots = [*beginning[1], *[None] * (code[2] - code[1])]
    return do_function(doing, Level(code, slots, (doing.epoch,), 0, []))


def proven_marks(version, codes, name, epoch, story, beginning):
    """The marks that an old execution shows to be passed; one that is stuck comes to no further entries."""
    old = Doing(version, codes, name, epoch, story, None)
    try:
        outcome_of(old, beginning)
    except Stuck:
        return old.proven
    return old.proven


class Execution:
    """The execution of codes: for a version, a task's name, an epoch, a start and a story."""

    def __init__(self, version, codes, name, epoch, start, story):
        check_codes(codes)
        if not is_task_string(name):
            raise InvalidTask(name)
        if not is_epoch(epoch):
            raise InvalidEpoch(epoch)
        check_beginning(version, codes, start)
        if not is_story(epoch, story):
            raise InvalidStory(story)
        from_start = not isinstance(start, Held)
        if from_start and (start[0] not in codes or codes[start[0]][1] != len(start[1])):
            raise InvalidCodes(start[0])
        told = {index: entry for index, entry in entries(story)}
        passed = proven_marks(version, codes, name, epoch, told, start)
        self._doing = Doing(version, codes, name, epoch, told, passed)
        outcome = outcome_of(self._doing, start)
        self._end = end_of(outcome)
        self._frame = None
        if outcome[0] == "stop":
            self._frame = (start[0] if from_start else start.frame_held[0], outcome[1])
        self._differences = copied(self._doing.different)
        if from_start:
            self._look_for_missed(told)
        self.blocks_done = self._doing.count

    @classmethod
    def from_frame(cls, version, codes, name, epoch, frame, story):
        """The execution that goes on from a frame."""
        return cls(version, codes, name, epoch, Held(frame), story)

    def _look_for_missed(self, told):
        """Adds the difference of the least missed entry, if the execution has ended without it."""
        if self._doing.waiting or self._differences:
            return
        missed = [index for index in told if index not in self._doing.came and told[index][0] != MARK]
        if missed:
            self._differences[missed[0]] = ("missed", told[missed[0]][0])

    def end(self):
        """The end, None if the execution waits or has stopped somewhere."""
        return self._end

    def waits(self):
        """A dict from the indexes at which the execution waits to the questions."""
        return copied(self._doing.waiting)

    def differences(self):
        """A dict from the indexes at which there is a difference to tuples (problem, question)."""
        return copied(self._differences)

    def come_to(self):
        """The sorted list of the entries to which the execution comes."""
        return sorted(self._doing.came)

    def passed(self):
        """The sorted list of the passed marks."""
        return sorted(self._doing.passing)

    def frame(self):
        """The frame at which it stands."""
        if self._frame is None:
            raise NoFrame()
        return self._frame
