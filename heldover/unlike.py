"""How two machines part, and other records that make other machines."""

from heldover.recovery import common_items, ended_tasks
from heldover.stories import strictly_equal

KEPT = ("kept", None)


def least_unlike(ours, theirs, size):
    """The least beginning, of so many items, of the tuples that only one of two lists has; None if there are none."""
    common = common_items(ours, theirs)
    found = [item[:size] for item in [*ours, *theirs] if not common_items([item], common)]
    return min(found) if found else None


def next_unlike(one, other):
    """The first list of two machines that is unlike, with the least in it, or None."""
    for word, ours, theirs, size in (
        ("asks", one.asks(), other.asks(), 2), ("ready", one.ready(), other.ready(), 2),
        ("ends", ended_tasks(one), ended_tasks(other), 1),
    ):
        found = least_unlike(ours, theirs, size)
        if found is not None:
            return (word, *found)
    return None


def told_frames(run, index):
    """The frames of a run at an index, as a tuple."""
    return tuple([(function, label, tuple(sorted(values.items()))) for function, label, values in run.frames(index)])


def frames_of(machine):
    """A dict from (name, index) to the frames at each wait of the living tasks."""
    found = {}
    for name in machine.names():
        run = machine.run(name)
        for index in run.waits():
            found[name, index] = told_frames(run, index)
    return found


def shown_unlike(one, other):
    """The least (name, index) of the waits at which two machines have unlike frames, or None."""
    ours, theirs = frames_of(one), frames_of(other)
    for place in sorted(set([*ours, *theirs])):
        if not strictly_equal(ours.get(place), theirs.get(place)):
            return place
    return None


def parted(one, other):
    """(word, what): how two machines part."""
    found = next_unlike(one, other)
    if found is not None:
        return ("next", found)
    found = shown_unlike(one, other)
    return KEPT if found is None else ("shown", found)
