"""Tasks, as a machine tells of them."""

from heldover.errors import InvalidIndex
from heldover.indexes import index_text, is_index
from heldover.runs import copied
from heldover.stories import entries, strictly_equal


class Task:
    """A task: living, or ended if it has an end."""

    def __init__(self, name, version, epoch, start, story, end=None):
        self.name = name
        self.version = version
        self.epoch = epoch
        self.start = start
        self._story = copied(story)
        self._end = end
        told = tuple([(index, entry) for index, entry in entries(story)])
        self._whole = (name, version, epoch, start, told, end)

    def story(self):
        """A copy of the story; an ended task has none."""
        return copied(self._story)

    def end(self):
        """The end, None for a living task."""
        return self._end

    def __eq__(self, other):
        return isinstance(other, Task) and strictly_equal(self._whole, other._whole)

    def __repr__(self):
        return f"Task({self.name!r}, {self.epoch!r})"


def child_name(name, index):
    """The name of the child that a task starts at an index."""
    if not is_index(index):
        raise InvalidIndex(index)
    return f"{name}/{index_text(index).replace(' ', '/')}"
