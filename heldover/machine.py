"""Machines: tasks that run, their messages, and the records of what happened."""

from heldover.errors import (
    Conflict, HeldoverError, InvalidAnswer, InvalidArguments, InvalidCount, InvalidMinutes, InvalidName,
    InvalidOperation, InvalidRecord, LimitError, MissingError, NotClosed, NotFound, NotOpen, NotReady, StateError,
    Taken, TooMany, UnknownName,
)
from heldover.indexes import is_index
from heldover.recording import operation_of
from heldover.runs import Run, is_start
from heldover.states import Living, Mail, moved, settled
from heldover.stories import is_moment, same, strictly_equal
from heldover.tasks import Task, child_name
from heldover.values import is_integer, is_name, is_task_string

# The operations, with how many items each has.
OPERATION_SIZES = {"wait": 2, "version": 1, "launch": 4, "do": 3, "answer": 4, "rest": 2, "move": 3}


def is_operation(value):
    """Whether it is a tuple with the word of an operation and as many items."""
    if not isinstance(value, tuple) or not value or not isinstance(value[0], str):
        return False
    if OPERATION_SIZES.get(value[0]) != len(value):
        return False
    return value[0] != "launch" or isinstance(value[3], tuple)


class Machine:
    """Versions, a clock, tasks and messages."""

    MAX_VERSIONS = 5

    def __init__(self, version, *more):
        self._versions = [version]
        self._current = 0
        self._clock = 0
        self._living = {}
        self._ended = {}
        self._mail = Mail()
        self._records = []
        for further in more:
            self.add_version(further)

    @classmethod
    def of_records(cls, versions, records):
        """The machine that the records determine."""
        machine = cls(versions[0])
        for position, record in enumerate(records):
            if not machine.repeat(record, versions):
                raise InvalidRecord(position)
        return machine

    def repeat(self, record, versions):
        """Does what a record of any value tells of; returns whether it can happen now."""
        operation = operation_of(self, record)
        number = len(self._versions)
        if operation is None or operation == ("version",) and number >= len(versions):
            return False
        count = len(self._records)
        try:
            self.perform(operation, versions[min(number, len(versions) - 1)])
        except (HeldoverError, MissingError, StateError, LimitError):
            return False
        return len(self._records) == count + 1 and strictly_equal(self._records[count], record)

    @classmethod
    def of_state(cls, versions, current, now, tasks, unread):
        """The machine of these parts, without records."""
        if len(versions) > cls.MAX_VERSIONS:
            raise TooMany("versions")
        if not is_integer(current) or not 0 <= current < len(versions):
            raise NotFound(current)
        machine = cls(versions[0])
        machine.take_over(versions, current, now, tasks, unread)
        return machine

    def take_over(self, versions, current, now, tasks, unread):
        """Takes over the parts of a machine, and settles."""
        seen = {}
        for task in tasks:
            if task.name in seen:
                raise Taken(task.name)
            seen[task.name] = True
        self._versions, self._current, self._clock = list(versions), current, now
        for task in tasks:
            if task.end() is None:
                self._living[task.name] = self._checked(task)
            else:
                self._ended[task.name] = task.end()
        for _, receiver, _, _ in unread:
            if receiver not in self._living:
                raise NotFound(receiver)
        self._mail = Mail(unread)
        for name in sorted(self._living):
            self._settle(name)

    def _checked(self, task):
        """A living task, if its run is closed."""
        if not is_integer(task.version) or not 0 <= task.version < len(self._versions):
            raise NotClosed(task.name)
        version = self._versions[task.version]
        if not is_start(version, task.start):
            raise NotClosed(task.name)
        run = Run(version, task.name, task.epoch, task.start, task.story())
        if run.state != "closed":
            raise NotClosed(task.name)
        return Living(task.name, task.version, run)

    def _settle(self, name):
        """Enters open asks of a task, and ends it if its run has ended."""
        found = settled(self._living[name])
        if isinstance(found, Living):
            self._living[name] = found
            return
        del self._living[name]
        self._ended[name] = found
        self._mail.drop(name)

    def _begin(self, name, number, start):
        """Begins a task in epoch 0."""
        self._living[name] = Living(name, number, Run(self._versions[number], name, 0, start, {}))
        self._settle(name)

    def _find(self, name):
        """A living task."""
        if not is_task_string(name) or name not in self._living:
            raise NotFound(name)
        return self._living[name]

    def add_version(self, version):
        """Adds a version and returns its number."""
        if len(self._versions) == self.MAX_VERSIONS:
            raise TooMany("versions")
        self._versions.append(version)
        number = len(self._versions) - 1
        self._records.append(("version", number))
        return number

    def versions(self):
        """The list of the versions."""
        return list(self._versions)

    @property
    def current(self):
        """The number of the current version."""
        return self._current

    @property
    def now(self):
        """The moment of the clock."""
        return self._clock

    def wait(self, minutes=1):
        """Lets minutes pass; returns the new moment."""
        if not is_moment(minutes):
            raise InvalidMinutes(minutes)
        self._clock += minutes
        self._records.append(("waited", self._clock))
        return self._clock

    def launch(self, name, function, *operands):
        """Starts a task from outside; returns the Task."""
        if not is_name(name):
            raise InvalidName(name)
        if name in self:
            raise Taken(name)
        version = self._versions[self._current]
        if function not in version:
            raise UnknownName(function)
        start = (function, operands, self._clock)
        if not is_start(version, start):
            raise InvalidArguments(function)
        self._records.append(("started", name, self._current, function, operands, self._clock))
        self._begin(name, self._current, start)
        return self.task(name)

    def names(self, *, living=True):
        """The sorted list of the names of the living tasks, or of the ended ones."""
        return sorted(self._living if living else self._ended)

    def task(self, name):
        """A task, living or ended."""
        if is_task_string(name) and name in self._ended:
            return Task(name, None, None, None, {}, self._ended[name])
        return self._find(name).as_task()

    def run(self, name):
        """The run of a living task."""
        return self._find(name).run_now

    def asks(self):
        """The sorted list of the open asks, (name, index, door, args)."""
        found = []
        for name in sorted(self._living):
            found.extend([(name, index, one[1], one[2]) for index, one in self._living[name].open_asks()])
        return found

    def _is_ready(self, task, index, question):
        """Whether the machine can do the step at which a task waits."""
        word = question[0]
        if word == "sleep":
            return task.run_now.moment(index) + question[1] <= self._clock
        if word == "receive":
            lying = self._mail.under(task.name, question[1])
            version = task.run_now.version
            return bool(lying) and version.kinds().is_value(version.key(question[1]), lying[0][1])
        return word != "ask"

    def _spots(self, name):
        """The sorted list of the spots of a task at which the machine can do a step."""
        task = self._living[name]
        run = task.run_now
        if run.end() is not None:
            return [(run.epoch,)]
        waits = run.waits()
        return sorted([index for index in waits if self._is_ready(task, index, waits[index])])

    def ready(self):
        """The sorted list of the pairs (name, spot) at which the machine can do a step."""
        return [(name, spot) for name in sorted(self._living) for spot in self._spots(name)]

    def messages(self, name, key):
        """The list of the messages (id, value) that lie for a task under a key, oldest first."""
        self._find(name).run_now.version.key(key)
        return self._mail.under(name, key)

    def do(self, name, spot):
        """Does the step at a spot; returns the answer, or the new epoch."""
        task = self._find(name)
        if not (is_index(spot) or isinstance(spot, tuple) and len(spot) == 1 and is_integer(spot[0])):
            raise NotReady(spot)
        if spot not in self._spots(name):
            raise NotReady(spot)
        if len(spot) == 1:
            return self._become(task)
        question = task.run_now.waits()[spot]
        answer = self._answer_to(task, spot, question)
        self._enter(task, spot, question, answer)
        if question[0] == "send" and question[1] in self._living:
            self._mail.put(((name, spot), question[1], question[2], question[3]))
        if question[0] == "start":
            self._begin(answer, task.number, (question[1], question[2], self._clock))
        self._settle(name)
        return answer

    def _answer_to(self, task, index, question):
        """The answer to a step that the machine does; a message that is received is taken away."""
        if question[0] == "start":
            return child_name(task.name, index)
        return self._mail.take(task.name, question[1]) if question[0] == "receive" else True

    def _enter(self, task, index, question, answer):
        """Enters an answer into the story of a task."""
        self._living[task.name] = task.with_entry(index, (question, answer, self._clock))
        self._records.append(("answered", task.name, index, question, answer, self._clock))

    def _become(self, task):
        """Lets a task become its new call; returns the new epoch."""
        run = task.run_now
        _, function, operands = run.end()
        start = (function, operands, run.end_moment)
        self._records.append(("became", task.name, *start))
        after = Run(run.version, task.name, run.epoch + 1, start, {})
        self._living[task.name] = Living(task.name, task.number, after)
        self._settle(task.name)
        return run.epoch + 1

    def answer(self, name, index, value):
        """Answers an open ask; returns whether this changed something."""
        if is_task_string(name) and name in self._ended:
            return False
        task = self._find(name)
        story = task.run_now.story()
        entry = story.get(index) if is_index(index) else None
        if entry is None or entry[0][0] != "ask":
            if is_index(index) and index[0] < task.run_now.epoch:
                return False
            raise NotOpen(index)
        if entry[1] is not None:
            if not same(entry[1], value):
                raise Conflict(index, entry[1])
            return False
        version = task.run_now.version
        if not version.kinds().is_value(version.door(entry[0][1])[1], value):
            raise InvalidAnswer(value)
        self._enter(task, index, entry[0], value)
        self._settle(name)
        return True

    def rest(self, most=100):
        """Does the first ready step again and again; returns the list of the pairs."""
        if not is_moment(most):
            raise InvalidCount(most)
        found = []
        while len(found) < most:
            ready = self.ready()
            if not ready:
                break
            self.do(ready[0][0], ready[0][1])
            found.append(ready[0])
        return found

    def move(self, names, number):
        """Moves tasks together to a version, which is current then."""
        if not isinstance(names, (list, tuple)):
            raise InvalidArguments("move")
        tasks = [self._find(name) for name in names]
        if not is_integer(number) or not 0 <= number < len(self._versions):
            raise NotFound(number)
        found = {}
        for task in tasks:
            found[task.name] = moved(task, self._versions[number], number)
            if found[task.name] is None:
                raise NotClosed(task.name)
        self._living.update(found)
        self._current = number
        self._records.append(("moved", tuple(sorted(found)), number))
        for name in sorted(found):
            self._settle(name)

    def perform(self, operation, version=None):
        """Does and returns what the method of this name does."""
        if not is_operation(operation):
            raise InvalidOperation(operation)
        word, *items = operation
        if word == "wait":
            return self.wait(items[0])
        if word == "version":
            return self.add_version(version)
        if word == "launch":
            name, function, operands = items
            return self.launch(name, function, *operands)
        if word == "do":
            return self.do(items[0], items[1])
        if word == "answer":
            return self.answer(items[0], items[1], items[2])
        return self.rest(items[0]) if word == "rest" else self.move(items[0], items[1])

    def population(self):
        """A dict from the names of the living tasks to tuples (version, (name, epoch, start, story))."""
        found = {}
        for name in sorted(self._living):
            run = self._living[name].run_now
            found[name] = (run.version, (name, run.epoch, run.start, run.story()))
        return found

    def unread(self):
        """The list of the unread messages, (id, receiver, key, value), in the order in which they were sent."""
        return list(self._mail.lying)

    def records(self):
        """The list of the records."""
        return list(self._records)

    def clone(self):
        """An independent machine that is like this one."""
        found = Machine(self._versions[0])
        found.take_parts(self._versions, (self._current, self._clock), self._living, self._ended)
        found.take_past(self._mail, self._records)
        return found

    def take_parts(self, versions, moments, living, ended):
        """Takes over the versions and tasks of another machine."""
        self._versions = list(versions)
        self._current, self._clock = moments
        self._living = dict(living)
        self._ended = dict(ended)

    def take_past(self, mail, records):
        """Takes over the messages and records of another machine."""
        self._mail = Mail(mail.lying)
        self._records = list(records)

    def _parts(self):
        """What makes two machines equal, beside their versions."""
        ended = tuple([(name, self._ended[name]) for name in sorted(self._ended)])
        living = tuple([self._living[name].whole for name in sorted(self._living)])
        return (self._current, self._clock, living, ended, self._mail.lying)

    def __eq__(self, other):
        if not isinstance(other, Machine) or self._versions != other._versions:
            return False
        return strictly_equal(self._parts(), other._parts())

    def __len__(self):
        return len(self._living)

    def __contains__(self, x):
        return is_task_string(x) and (x in self._living or x in self._ended)
