"""Recovery: a machine that is made of the records of a log, one after the other."""

from heldover.errors import InvalidLog, NoFrame, NoPoint
from heldover.frames import is_right_frame
from heldover.machine import Machine
from heldover.runs import Run, is_start
from heldover.states import OVER_WORDS
from heldover.stories import is_story
from heldover.tasks import Task
from heldover.values import is_task_string

# The words of the records of a short file behind its "at", in their order.
SHORT_WORDS = ("gone", "task", "lies")


def living_task(versions, record):
    """The task of which a "task" record with a task string tells, None if there can be no such living task."""
    _, name, number, epoch, start, told = record
    story = {index: (question, answer, moment) for index, question, answer, moment in told}
    if number >= len(versions) or not is_start(versions[number], start) or not is_story(epoch, story):
        return None
    run = Run(versions[number], name, epoch, start, story)
    end = run.end()
    if run.state != "closed" or end is not None and end[0] in OVER_WORDS:
        return None
    return Task(name, number, epoch, start, story)


class ShortFile:
    """The parts of a machine, while the records of a short file tell them."""

    def __init__(self, versions, current, moment):
        self.version_list = versions
        self.current_number = current
        self.moment_told = moment
        self.stage = 0
        self.found = {}
        self.unread_messages = []

    def add_record(self, record):
        """Adds what a record tells; returns whether it can happen here."""
        word, name = record[:2]
        if SHORT_WORDS.index(word) < self.stage:
            return False
        self.stage = SHORT_WORDS.index(word)
        if word == "lies":
            _, receiver, key, message, value = record
            self.unread_messages.append((message, receiver, key, value))
            return receiver in self.found and self.found[receiver].end() is None
        if name in self.found or not is_task_string(name):
            return False
        task = Task(name, None, None, None, {}, record[2]) if word == "gone" else living_task(self.version_list, record)
        self.found[name] = task
        return task is not None

    def made(self):
        """The machine of these parts."""
        tasks = [self.found[name] for name in sorted(self.found)]
        return Machine.of_state(self.version_list, self.current_number, self.moment_told, tasks, self.unread_messages)


class Replay:
    """A machine that does what records tell."""

    def __init__(self, versions):
        self.version_list = versions
        self.line = 0
        self.short_file = None
        self.held_machine = Machine(versions[0])

    def take_all(self, records):
        """Does what all these records tell; returns itself."""
        for record in records:
            self.take_next(record)
        return self

    def take_next(self, record):
        """Does what the next record tells."""
        self.line += 1
        if not self.can_happen(record):
            raise InvalidLog(self.line)

    def can_happen(self, record):
        """Does what a record tells; returns whether it can happen now."""
        word = record[0]
        if word == "at":
            return self.line == 1 and self.begin_short(record)
        if word in SHORT_WORDS:
            return self.short_file is not None and self.short_file.add_record(record)
        machine = self.machine_now()
        if word == "frame":
            return record[1] in machine.names()
        return machine.repeat(record, self.version_list)

    def begin_short(self, record):
        """Begins a short file; returns whether it can begin so."""
        _, moment, number, current = record
        if not 1 <= number <= min(Machine.MAX_VERSIONS, len(self.version_list)) or current >= number:
            return False
        self.short_file = ShortFile(self.version_list[:number], current, moment)
        return True

    def machine_now(self):
        """The machine; no record of a short file can follow."""
        if self.short_file is not None:
            self.held_machine = self.short_file.made()
            self.short_file = None
        return self.held_machine


def replayed(versions, records):
    """The machine that records make."""
    return Replay(versions).take_all(records).machine_now()


def is_right_now(codes, maps, run, frame):
    """Whether a frame is right for a run, also one that has none."""
    try:
        return is_right_frame(codes, maps, run, frame)
    except (NoFrame, NoPoint):
        return False


def last_right(versions, records, key, codes, maps):
    """A dict from the names of tasks to the frames of their last right checkpoints with this key."""
    found = {}
    replay = Replay(versions)
    for record in records:
        replay.take_next(record)
        if record[0] == "frame" and record[2] == key:
            _, name, _, frame = record
            if is_right_now(codes, maps, replay.machine_now().run(name), frame):
                found[name] = frame
    return found
