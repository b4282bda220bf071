"""The parts of a machine: living tasks, and what holds of them."""

from heldover.errors import UnknownName
from heldover.runs import Run, is_start
from heldover.stories import entries
from heldover.tasks import Task

OVER_WORDS = ("result", "error")


class Living:
    """A living task with its run."""

    def __init__(self, name, number, run):
        self.name = name
        self.number = number
        self.run_now = run
        # All that makes it up, as a tuple.
        story = run.story()
        told = tuple([(index, entry) for index, entry in entries(story)])
        self.whole = (name, number, run.epoch, run.start, told)

    def with_entry(self, index, entry):
        """The task with one more entry in its story, or another one."""
        run = self.run_now
        story = run.story()
        story[index] = entry
        return Living(self.name, self.number, Run(run.version, self.name, run.epoch, run.start, story))

    def as_task(self):
        """What a machine tells of it."""
        run = self.run_now
        return Task(self.name, self.number, run.epoch, run.start, run.story())

    def open_asks(self):
        """The list of (index, question) of the open asks in its story."""
        story = self.run_now.story()
        return [(index, entry[0]) for index, entry in entries(story) if entry[1] is None]


def settled(task):
    """The task with entries for the asks at which it waits; a living task, or the end if it has ended."""
    while True:
        run = task.run_now
        story = run.story()
        missing = [(index, question) for index, question in run.waits().items() if question[0] == "ask"]
        missing = [(index, question) for index, question in missing if index not in story]
        if not missing:
            end = run.end()
            return end if end is not None and end[0] in OVER_WORDS else task
        for index, question in missing:
            story[index] = (question, None, None)
        task = Living(task.name, task.number, Run(run.version, task.name, run.epoch, run.start, story))


def has_alike_answer(old, new, door):
    """Whether two versions have a door, with answers of alike kinds."""
    try:
        kind, other = old.door(door)[1], new.door(door)[1]
    except UnknownName:
        return False
    return old.kinds().alike(kind, other, kinds=new.kinds())


def moved(task, version, number):
    """The task as it stands in another version, None if it must not be moved there."""
    run = task.run_now
    if not is_start(version, run.start):
        return None
    there = Run(version, task.name, run.epoch, run.start, run.story())
    if there.state != "closed":
        return None
    for _, question in task.open_asks():
        if not has_alike_answer(run.version, version, question[1]):
            return None
    return Living(task.name, number, there)


class Mail:
    """The unread messages, (id, receiver, key, value), in the order in which they were sent."""

    def __init__(self, messages=()):
        self.lying = tuple(messages)

    def under(self, name, key):
        """The list of the messages (id, value) for a task under a key, oldest first."""
        return [(one, value) for one, receiver, other, value in self.lying if receiver == name and other == key]

    def put(self, message):
        """Adds a message."""
        self.lying = (*self.lying, message)

    def take(self, name, key):
        """Takes away the oldest message for a task under a key, and returns it as (id, value)."""
        positions = [at for at, message in enumerate(self.lying) if message[1:3] == (name, key)]
        message = self.lying[positions[0]]
        self.lying = (*self.lying[:positions[0]], *self.lying[positions[0] + 1:])
        return (message[0], message[3])

    def drop(self, name):
        """Drops the messages for a task."""
        self.lying = tuple([message for message in self.lying if message[1] != name])
