"""Recovery of machines, short files, what is handed out, and checkpoints."""

from heldover.frames import check_maps
from heldover.records import good_records, lines_text
from heldover.replaying import last_right, replayed
from heldover.stories import entries, strictly_equal


def recover(versions, text):
    """The machine that the good prefix of a string makes."""
    return replayed(versions, good_records(text))


def told_entries(story):
    """The tuple of (index, question, answer, moment) for the entries with an answer."""
    return tuple([(index, *entry) for index, entry in entries(story) if entry[1] is not None])


def task_of(checkpoint):
    """The name of the task of a checkpoint."""
    return checkpoint[1]


def short_text(machine, checkpoints=()):
    """The short file of a machine with these checkpoints."""
    records = [("at", machine.now, len(machine.versions()), machine.current)]
    records.extend([("gone", name, machine.task(name).end()) for name in machine.names(living=False)])
    for name in machine.names():
        task = machine.task(name)
        records.append(("task", name, task.version, task.epoch, task.start, told_entries(task.story())))
    records.extend([("lies", receiver, key, message, value) for message, receiver, key, value in machine.unread()])
    records.extend(sorted(checkpoints, key=task_of))
    return lines_text(records)


def common_items(here, there):
    """The list of those items of one list that stand in another one, too."""
    return [item for item in here if any([strictly_equal(item, other) for other in there])]


def ended_tasks(machine):
    """The sorted list of (name, end) of the ended tasks."""
    return [(name, machine.task(name).end()) for name in machine.names(living=False)]


def handed_out(machine, versions, text):
    """What a machine hands out if this is the permanent part of its file: open asks, and ends."""
    permanent = recover(versions, text)
    return (
        common_items(machine.asks(), permanent.asks()), common_items(ended_tasks(machine), ended_tasks(permanent))
    )


def last_checkpoint(versions, text, name, *, key, codes, maps):
    """The frame of the last right checkpoint of a task with this key, or None."""
    recover(versions, text).run(name)
    check_maps(codes, maps)
    return last_right(versions, good_records(text), key, codes, maps).get(name)
