"""Executes codes block by block, as the document's [34] says, to compare what they do with plain runs."""

from heldover.expressions import operate
from heldover.stories import is_question, same
from heldover.values import is_integer

INTEGERS = ("add", "sub", "mul", "div", "mod", "less")
TRUTHS = ("and", "or", "not")


class StuckHere(Exception):
    """The walk cannot go on at a block."""


class Walk:
    """One execution; passes tells for the index of a mark without an entry whether the old arm is taken."""

    def __init__(self, version, codes, task, epoch, start, story, passes):
        self.version, self.codes, self.task, self.story = version, codes, task, story
        self.kinds = version.kinds()
        self.passes = passes
        self.waits, self.differences, self.came, self.passed = {}, {}, set(), set()
        self.blocks_done = 0
        self.calls_done = []
        outcome = self.call(start[0], start[1], (epoch,), False)
        self.end = None
        if outcome[0] == "return":
            self.end = ("result", outcome[1])
        elif outcome[0] == "raise":
            self.end = ("error", outcome[1])
        elif outcome[0] == "become":
            self.end = outcome

    def call(self, name, args, prefix, called):
        code = self.codes[name]
        if code[1] != len(args):
            raise StuckHere("parameters")
        slots = list(args) + [None] * (code[2] - len(args))
        return self.go(code, 0, slots, prefix, called, False)

    def at_point(self, code, block, slots, prefix):
        """Called at each block with a place, before its steps."""

    def operand(self, operand, slots):
        return operand[1] if operand[0] == "value" else slots[operand[1]]

    def read(self, operand, slots):
        value = self.operand(operand, slots)
        if value is None:
            raise StuckHere("nothing is in the slot")
        return value

    def operation(self, operation, slots):
        word = operation[0]
        if word in ("slot", "value"):
            return self.operand(operation, slots)
        if word == "self":
            return self.task
        first = 2 if word in ("tag", "is", "part") else 1
        operands = [self.operand(one, slots) for one in operation[first:]]
        if any(one is None for one in operands):
            return None
        if word == "tag":
            return (operation[1], *operands)
        if word == "is":
            return isinstance(operands[0], tuple) and operands[0][0] == operation[1]
        if word == "part":
            if not isinstance(operands[0], tuple) or len(operands[0]) < operation[1] + 2:
                return None
            return operands[0][operation[1] + 1]
        if word in INTEGERS and not all(is_integer(one) for one in operands):
            return None
        if word in TRUTHS and not all(isinstance(one, bool) for one in operands):
            return None
        return operate(word, operands)

    def index(self, prefix, place, slots):
        parts = []
        for label, number in place:
            if isinstance(number, tuple):
                number = self.read(number, slots)
            if not is_integer(number) or not 0 <= number <= 9:
                raise StuckHere("no number of a part")
            parts.append((label, number))
        return (*prefix, *parts)

    def go(self, code, block, slots, prefix, called, in_body):
        while True:
            self.blocks_done += 1
            if self.blocks_done > 20000:
                raise StuckHere("too many blocks")
            place, steps, end = code[3][block]
            if place is not None:
                self.at_point(code, block, slots, prefix)
            for slot, operation in steps:
                slots[slot] = self.operation(operation, slots)
            word = end[0]
            if word == "jump":
                block = end[1]
            elif word == "branch":
                truth = self.read(end[1], slots)
                if not isinstance(truth, bool):
                    raise StuckHere("no truth")
                block = end[2] if truth else end[3]
            elif word in ("return", "raise", "become", "done"):
                return self.left(end, slots, called, in_body)
            else:
                block = self.wait(code, end, slots, prefix, self.index(prefix, place, slots))
                if isinstance(block, tuple):
                    return block

    def left(self, end, slots, called, in_body):
        word = end[0]
        if in_body and word in ("return", "become") or word == "done" and not in_body or word == "become" and called:
            raise StuckHere(word)
        if word == "return":
            return ("return", self.read(end[1], slots))
        if word == "become":
            return ("become", end[1], tuple(self.read(one, slots) for one in end[2]))
        return end

    def wait(self, code, end, slots, prefix, index):
        """The next block, or the outcome."""
        if end[0] == "call":
            args = tuple(self.read(one, slots) for one in end[3])
            self.calls_done.append(index)
            outcome = self.call(end[2], args, index, True)
            if outcome[0] == "return":
                if end[1] is not None:
                    slots[end[1]] = outcome[1]
                return end[4]
            if outcome[0] == "raise":
                return dict(end[5]).get(outcome[1], outcome)
            return outcome
        if end[0] == "both":
            return self.both(code, end, slots, prefix)
        if end[0] == "mark":
            return self.mark(end, index)
        return self.outer(end, slots, index)

    def both(self, code, end, slots, prefix):
        copies = [list(slots), list(slots)]
        outcomes = [self.go(code, end[1 + at], copies[at], prefix, True, True) for at in range(2)]
        if any(outcome[0] == "stop" for outcome in outcomes):
            return ("stop",)
        for at in range(2):
            for slot in end[3 + at]:
                slots[slot] = copies[at][slot]
        errors = [outcome for outcome in outcomes if outcome[0] == "raise"]
        if errors:
            return dict(end[6]).get(errors[0][1], errors[0])
        return end[5]

    def mark(self, end, index):
        entry = self.story.get(index)
        if entry is not None and entry[0] == ("mark",):
            self.came.add(index)
            return end[1]
        if entry is not None:
            self.differences[index] = ("question", ("mark",))
            return ("stop",)
        if self.passes(index):
            self.passed.add(index)
            return end[2]
        self.waits[index] = ("mark",)
        return ("stop",)

    def question(self, end, slots):
        if end[0] in ("ask", "start"):
            return (end[0], end[2], tuple(self.read(one, slots) for one in end[3]))
        if end[0] == "send":
            return ("send", self.read(end[1], slots), end[2], self.read(end[3], slots))
        if end[0] == "receive":
            return ("receive", end[2])
        return ("sleep", max(0, self.read(end[1], slots)))

    def outer(self, end, slots, index):
        question = self.question(end, slots)
        if not is_question(question):
            raise StuckHere("no question")
        entry = self.story.get(index)
        if entry is None:
            self.waits[index] = question
            return ("stop",)
        if not same(entry[0], question):
            self.differences[index] = ("question", question)
            return ("stop",)
        answer = entry[1]
        if answer is not None and not self.fits(question, answer):
            self.differences[index] = ("answer", question)
            return ("stop",)
        self.came.add(index)
        if answer is None:
            self.waits[index] = question
            return ("stop",)
        if end[0] in ("ask", "start", "receive") and end[1] is not None:
            slots[end[1]] = answer[1] if end[0] == "receive" else answer
        return end[-1]

    def fits(self, question, answer):
        if question[0] == "ask":
            return self.kinds.is_value(self.version.door(question[1])[1], answer)
        if question[0] == "receive":
            return self.kinds.is_value(self.version.key(question[1]), answer[1])
        return True


def old_walk(version, codes, task, epoch, start, story):
    """The old execution: it takes the old arm at each mark without an entry."""
    return Walk(version, codes, task, epoch, start, story, lambda index: True)


def walk(version, codes, task, epoch, start, story):
    """The execution; each mark is judged by an old execution that waits at it, as [26] words it."""
    old = old_walk(version, codes, task, epoch, start, story)
    passed = set()
    for mark in old.passed:
        held = Walk(version, codes, task, epoch, start, story, lambda index, mark=mark: index != mark)
        if old.came - held.came:
            passed.add(mark)
    return Walk(version, codes, task, epoch, start, story, lambda index: index in passed)


def differences_with_missed(done, story):
    """The differences of a walk, with that of the least missed entry if it has ended."""
    missed = sorted(index for index in story if index not in done.came and story[index][0] != ("mark",))
    if missed and not done.waits and not done.differences:
        return {missed[0]: ("missed", story[missed[0]][0])}
    return done.differences
