"""Plain runs: what a version does with a story."""

from heldover.courses import MARK
from heldover.errors import InvalidEpoch, InvalidStart, InvalidStory, InvalidTask, UnknownStep
from heldover.indexes import is_epoch, is_index
from heldover.performing import Performance
from heldover.stories import entries, is_moment, is_story, strictly_equal
from heldover.values import is_task_string


def is_start(version, value):
    """Whether it is a start of the version."""
    if not isinstance(value, tuple) or len(value) != 3 or value[0] not in version or not is_moment(value[2]):
        return False
    params = version.signature(value[0])[0]
    if not isinstance(value[1], tuple) or len(value[1]) != len(params):
        return False
    kinds = version.kinds()
    return all([kinds.is_value(kind, datum) for kind, datum in zip(params, value[1])])


def end_of(outcome):
    """The end of a run, by the outcome of its function."""
    if outcome[0] == "return":
        return ("result", outcome[1])
    if outcome[0] == "raise":
        return ("error", outcome[1])
    return None if outcome[0] == "stop" else outcome


def copied(table):
    """A copy of a dict from indexes."""
    return {index: table[index] for index in table}


def copied_node(node):
    """A copy of a node of a tree, or of a body, that shares no dict with it."""
    if node[0] == "ended":
        return ("ended", dict(node[1]), node[2])
    parts, values, inner = node
    if inner is None:
        return (parts, dict(values), None)
    if isinstance(inner[0], str):
        return (parts, dict(values), (inner[0], copied_node(inner[1])))
    return (parts, dict(values), (copied_node(inner[0]), copied_node(inner[1])))


class Run:
    """The plain run of a task: of a version, its name, its epoch, its start and its story."""

    def __init__(self, version, name, epoch, start, story):
        if not is_task_string(name):
            raise InvalidTask(name)
        if not is_epoch(epoch):
            raise InvalidEpoch(epoch)
        if not is_start(version, start):
            raise InvalidStart(start)
        if not is_story(epoch, story):
            raise InvalidStory(story)
        self.version = version
        self.name = name
        self.epoch = epoch
        self.start = start
        self._told = tuple([(index, entry) for index, entry in entries(story)])
        self._story = {index: entry for index, entry in self._told}
        old = Performance(version, name, epoch, self._story, None)
        old.performed(start[0], start[1], (epoch,), [], [], [])
        self._performance = Performance(version, name, epoch, self._story, old.proven)
        outcome = self._performance.performed(start[0], start[1], (epoch,), [], [], [])
        self._end = end_of(outcome)
        self._node = outcome[1] if outcome[0] == "stop" else None
        self._missed = self._find_missed()
        self._differences = self._find_differences()
        self._state = self._find_state()
        self._end_moment = None if self._end is None else self._latest(list(self._performance.came))

    def _find_missed(self):
        """The missed entries, ascending."""
        came = self._performance.came
        return [index for index in self._story if index not in came and self._story[index][0] != MARK]

    def _find_differences(self):
        """The differences, with that of the least missed entry if the run has ended without it."""
        found = copied(self._performance.different)
        if self._missed and not self._performance.waiting and not found:
            least = self._missed[0]
            found[least] = ("missed", self._story[least][0])
        return found

    def _find_state(self):
        """The state of the run."""
        if self._differences:
            return "different"
        return "ahead" if self._missed else "closed"

    def _latest(self, indexes):
        """The greatest of the moments of these entries and the one at which the task began."""
        return max([self.start[2], *[self._story[index][2] for index in indexes]])

    def _step(self, index):
        """The way and the frames of a step."""
        if not is_index(index) or index not in self._performance.steps:
            raise UnknownStep(index)
        return self._performance.steps[index]

    @property
    def state(self):
        """Whether the run is "closed", "ahead" or "different"."""
        return self._state

    @property
    def end_moment(self):
        """The moment of the end, None without an end."""
        return self._end_moment

    def story(self):
        """A copy of the story."""
        return copied(self._story)

    def end(self):
        """The end, None if the run waits or has stopped somewhere."""
        return self._end

    def waits(self):
        """A dict from the indexes at which the run waits to the questions."""
        return copied(self._performance.waiting)

    def differences(self):
        """A dict from the indexes at which there is a difference to tuples (problem, question)."""
        return copied(self._differences)

    def come_to(self):
        """The sorted list of the entries to which the run comes."""
        return sorted(self._performance.came)

    def missed(self):
        """The sorted list of the missed entries."""
        return list(self._missed)

    def passed(self):
        """The sorted list of the passed marks."""
        return sorted(self._performance.passing)

    def way(self, index):
        """The sorted list of the entries on the way to a step."""
        return sorted(self._step(index)[0])

    def moment(self, index):
        """The moment of a step."""
        return self._latest(self._step(index)[0])

    def frames(self, index):
        """The frames at a step, the function of the start first."""
        return [(function, label, dict(values)) for function, label, values in self._step(index)[1]]

    def tree(self):
        """The tree, None with an end."""
        return None if self._node is None else (self.start[0], copied_node(self._node))

    def __eq__(self, other):
        if not isinstance(other, Run):
            return False
        if self.version != other.version or self.name != other.name or self.epoch != other.epoch:
            return False
        return strictly_equal((self.start, self._told), (other.start, other._told))
