"""How an execution does the blocks of codes.

What a function or a body comes to is an outcome: ("return", value), ("raise", error), ("become", function, args) or
("done",) if it has ended; ("stop", branch) if it waits or has a difference somewhere, with the BRANCH that tells where.
"""

from heldover.codes import WAITING_WORDS, is_below
from heldover.courses import Course
from heldover.errors import Stuck
from heldover.indexes import GREATEST_NUMBER
from heldover.operations import head_of, inner_of, is_mere_operand, operated
from heldover.stories import is_question
from heldover.values import is_integer

MOST_DONE = 20000
DEEPEST = 60


class Level:
    """A branch within one function: its slots, and what stands around it."""

    def __init__(self, code, slots, prefix, depth, marks):
        self.code = code
        self.slots = slots
        self.prefix = prefix
        self.depth = depth
        self.marks = marks
        self.called = False
        self.sealed = False

    def callee(self, code, slots, index):
        """The level of a function that is called here."""
        found = Level(code, slots, index, self.depth + 1, self.marks)
        found.called = True
        return found

    def parted(self, slots):
        """The level of a body of a both here, with a copy of these slots."""
        found = Level(self.code, list(slots), self.prefix, self.depth + 1, list(self.marks))
        found.called = self.called
        found.sealed = True
        return found

    def stop(self, block, inner):
        """The outcome of a block with a waiting end at which the branch stands."""
        return ("stop", (tuple(self.slots), block, inner))


class Doing(Course):
    """An execution while it is done."""

    def __init__(self, version, codes, task, epoch, story, passed):
        super().__init__(version, task, epoch, story, passed)
        self.code_table = codes
        self.count = 0

    def begin_block(self, level, block):
        """Counts a block that is done."""
        if self.count == MOST_DONE:
            raise Stuck(level.code[0], block)
        self.count += 1

    def operand(self, level, operand):
        """The value of an operand, None for nothing."""
        return operand[1] if operand[0] == "value" else level.slots[operand[1]]

    def read_operand(self, level, block, operand):
        """The value of an operand that the end of a block reads."""
        value = self.operand(level, operand)
        if value is None:
            raise Stuck(level.code[0], block)
        return value

    def read_all(self, level, block, operands):
        """The values of operands that the end of a block reads."""
        return tuple([self.read_operand(level, block, operand) for operand in operands])

    def operation(self, level, operation):
        """The value of an operation, None if it has none."""
        if is_mere_operand(operation):
            return self.operand(level, operation)
        if operation[0] == "self":
            return self.task_name
        values = [self.operand(level, operand) for operand in inner_of(operation)]
        if any([value is None for value in values]):
            return None
        return operated(head_of(operation), values)

    def index_at(self, level, block):
        """The index of a block with a waiting end."""
        parts = []
        for label, number in level.code[3][block][0]:
            if isinstance(number, tuple):
                number = self.read_operand(level, block, number)
            if not is_below(number, GREATEST_NUMBER + 1):
                raise Stuck(level.code[0], block)
            parts.append((label, number))
        return (*level.prefix, *parts)


def do_function(doing, level, block=0):
    """Does blocks from this one on; returns the outcome."""
    while True:
        doing.begin_block(level, block)
        _, steps, end = level.code[3][block]
        for slot, operation in steps:
            level.slots[slot] = doing.operation(level, operation)
        word = end[0]
        if word in WAITING_WORDS:
            action = ACTIONS[word]
            outcome = action(doing, level, block, end)
        else:
            outcome = do_plain_end(doing, level, block, end)
        if outcome[0] != "next":
            return outcome
        block = outcome[1]


def do_plain_end(doing, level, block, end):
    """An end with which nothing waits; returns ("next", block) or the outcome."""
    word = end[0]
    if word == "jump":
        return ("next", end[1])
    if word == "branch":
        truth = doing.read_operand(level, block, end[1])
        if not isinstance(truth, bool):
            raise Stuck(level.code[0], block)
        return ("next", end[2] if truth else end[3])
    if word == "raise":
        return end
    is_wrong = level.sealed != (word == "done") or word == "become" and level.called
    if is_wrong:
        raise Stuck(level.code[0], block)
    if word == "return":
        return ("return", doing.read_operand(level, block, end[1]))
    if word == "become":
        return ("become", end[1], doing.read_all(level, block, end[2]))
    return end


def block_of_error(errors, error):
    """The block of an error, or None."""
    for name, block in errors:
        if name == error:
            return block
    return None


def behind_call(level, block, end, outcome):
    """What follows the outcome of a called function."""
    if outcome[0] == "stop":
        return level.stop(block, (end[2], outcome[1]))
    if outcome[0] == "raise":
        handler = block_of_error(end[5], outcome[1])
        return outcome if handler is None else ("next", handler)
    if end[1] is not None:
        level.slots[end[1]] = outcome[1]
    return ("next", end[4])


def do_call(doing, level, block, end):
    """Calls a function."""
    index = doing.index_at(level, block)
    values = doing.read_all(level, block, end[3])
    code = doing.code_table.get(end[2])
    if code is None or code[1] != len(values) or level.depth == DEEPEST:
        raise Stuck(level.code[0], block)
    slots = [*values, *[None] * (code[2] - len(values))]
    return behind_call(level, block, end, do_function(doing, level.callee(code, slots, index)))


def has_stopped(outcome):
    """Whether a body waits or has a difference somewhere."""
    return outcome[0] == "stop"


def body_in_frame(inner, outcome):
    """What the frame tells of a body of a both."""
    if has_stopped(outcome):
        return outcome[1]
    return ("ended", tuple(inner.slots), outcome[1] if outcome[0] == "raise" else None)


def behind_both(level, block, end, bodies, outcomes):
    """What follows the outcomes of the bodies of a both; bodies are their levels."""
    if has_stopped(outcomes[0]) or has_stopped(outcomes[1]):
        return level.stop(block, tuple([body_in_frame(one, outcome) for one, outcome in zip(bodies, outcomes)]))
    before = len(level.marks)
    for number, inner in enumerate(bodies):
        for slot in end[3 + number]:
            level.slots[slot] = inner.slots[slot]
        level.marks.extend(inner.marks[before:])
    for outcome in outcomes:
        if outcome[0] == "raise":
            handler = block_of_error(end[6], outcome[1])
            return outcome if handler is None else ("next", handler)
    return ("next", end[5])


def do_both(doing, level, block, end):
    """Does both bodies, one after the other, whatever the first one does."""
    doing.index_at(level, block)
    if level.depth == DEEPEST:
        raise Stuck(level.code[0], block)
    bodies = [level.parted(level.slots), level.parted(level.slots)]
    outcomes = [do_function(doing, bodies[0], end[1])]
    outcomes.append(do_function(doing, bodies[1], end[2]))
    return behind_both(level, block, end, bodies, outcomes)


def question_at(doing, level, block, end):
    """The question that a block makes."""
    word = end[0]
    if word in ("ask", "start"):
        question = (word, end[2], doing.read_all(level, block, end[3]))
    elif word == "send":
        question = (word, doing.read_operand(level, block, end[1]), end[2], doing.read_operand(level, block, end[3]))
    elif word == "receive":
        question = (word, end[2])
    else:
        minutes = doing.read_operand(level, block, end[1])
        question = (word, max(0, minutes) if is_integer(minutes) else None)
    if not is_question(question):
        raise Stuck(level.code[0], block)
    return question


def do_outer(doing, level, block, end):
    """Asks something; goes on only with an answer of the story."""
    index = doing.index_at(level, block)
    question = question_at(doing, level, block, end)
    answer = doing.answer_at(index, question, level)
    if answer is None:
        return level.stop(block, None)
    if end[0] in ("ask", "start", "receive") and end[1] is not None:
        level.slots[end[1]] = answer[1] if end[0] == "receive" else answer
    return ("next", end[-1])


def do_mark(doing, level, block, end):
    """The new arm with an entry, the old one at a mark that is passed; at any other mark the execution waits."""
    index = doing.index_at(level, block)
    arm = doing.arm_at(index, level)
    if arm is None:
        return level.stop(block, None)
    return ("next", end[1] if arm == "new" else end[2])


ACTIONS = {
    "call": do_call, "ask": do_outer, "send": do_outer, "receive": do_outer, "sleep": do_outer, "start": do_outer,
    "mark": do_mark, "both": do_both,
}


def go_on(doing, level, branch):
    """Goes on from a branch of a frame; returns the outcome."""
    _, block, inner = branch
    end = level.code[3][block][2]
    if end[0] not in ("call", "both"):
        return do_function(doing, level, block)
    doing.begin_block(level, block)
    if end[0] == "call":
        index = doing.index_at(level, block)
        callee = level.callee(doing.code_table[inner[0]], list(inner[1][0]), index)
        outcome = behind_call(level, block, end, go_on(doing, callee, inner[1]))
    else:
        bodies = [level.parted(body[1] if body[0] == "ended" else body[0]) for body in inner]
        outcomes = [go_on_in_body(doing, bodies[0], inner[0])]
        outcomes.append(go_on_in_body(doing, bodies[1], inner[1]))
        outcome = behind_both(level, block, end, bodies, outcomes)
    return do_function(doing, level, outcome[1]) if outcome[0] == "next" else outcome


def go_on_in_body(doing, level, body):
    """Goes on in a body of a both; one that has ended has its outcome already."""
    if body[0] != "ended":
        return go_on(doing, level, body)
    return ("done",) if body[2] is None else ("raise", body[2])
