"""How a plain run performs the text of a version.

Each body is performed with an outcome: None if it came to its end; ("break",), ("return", value), ("raise", error) or
("become", function, args) if it was left; ("stop", node) if it waits or has a difference somewhere, with the node of
the tree that tells where.
"""

from heldover.courses import Course
from heldover.expressions import evaluate
from heldover.syntax import set_in


class Branch:
    """A branch of a run, within one function."""

    def __init__(self, owner, variables, prefix, above, path, marks):
        self.owner = owner
        self.variables = variables
        self.prefix = prefix
        self.above = above
        self.path = path
        self.marks = marks

    def parted(self):
        """A branch for a body of a both, with its own copy of everything."""
        return Branch(
            self.owner, dict(self.variables), self.prefix, self.above, list(self.path), list(self.marks)
        )

    def take_over(self, inner, body, path_length, marks_length):
        """Takes over what a body of a both set and what it came to; the lengths are those before the both."""
        for name in set_in(body):
            self.variables[name] = inner.variables[name]
        self.path.extend(inner.path[path_length:])
        self.marks.extend(inner.marks[marks_length:])

    def stop(self, parts, inner):
        """The outcome of a step, a call or a both at which the branch stands."""
        return ("stop", (parts, dict(self.variables), inner))


class Performance(Course):
    """A plain run while it is performed."""

    def __init__(self, version, task, epoch, story, passed):
        super().__init__(version, task, epoch, story, passed)
        self.steps = {}

    def value_of(self, expression, branch):
        """The value of an expression in a branch."""
        return evaluate(expression, branch.variables, task=self.task_name)

    def values_of(self, operands, branch):
        """The values of expressions in a branch."""
        return tuple([self.value_of(operand, branch) for operand in operands])

    def note_step(self, branch, parts):
        """Keeps the way and the frames of a step, and returns its index."""
        index = (*branch.prefix, *parts)
        frame = (branch.owner, parts[-1][0], dict(branch.variables))
        self.steps[index] = (tuple(branch.path), [*branch.above, frame])
        return index

    def performed(self, function, operands, prefix, above, path, marks):
        """Performs a call of a function; returns the outcome, which is never None."""
        name, params, inner, result, body = self.version.function(function)
        variables = {variable: self.kind_table.zero(kind) for variable, kind in inner}
        variables.update({variable: value for (variable, _), value in zip(params, operands)})
        branch = Branch(name, variables, prefix, above, path, marks)
        outcome = perform_body(self, branch, body, ())
        return ("return", self.kind_table.zero(result)) if outcome is None else outcome


def perform_body(run, branch, body, parts):
    """Performs the statements of a body; parts are those around it, within the function."""
    for statement in body:
        action = ACTIONS[statement[0]]
        outcome = action(run, branch, statement, parts)
        if outcome is not None:
            return outcome
    return None


def perform_set(run, branch, statement, parts):
    """x becomes the value."""
    branch.variables[statement[1]] = run.value_of(statement[2], branch)
    return None


def perform_if(run, branch, statement, parts):
    """The first body, or the second one."""
    body = statement[2] if run.value_of(statement[1], branch) else statement[3]
    return perform_body(run, branch, body, parts)


def perform_match(run, branch, statement, parts):
    """The variables of the case become the fields of the value."""
    value = run.value_of(statement[1], branch)
    tag, *fields = value
    for case, names, body in statement[2]:
        if case == tag:
            branch.variables.update({name: field for name, field in zip(names, fields)})
            return perform_body(run, branch, body, parts)
    return None


def perform_loop(run, branch, statement, parts):
    """All rounds, until one is left."""
    _, label, rounds, body = statement
    for number in range(rounds):
        outcome = perform_body(run, branch, body, (*parts, (label, number)))
        if outcome is not None:
            return None if outcome == ("break",) else outcome
    return None


def perform_break(run, branch, statement, parts):
    """Leaves the innermost loop."""
    return ("break",)


def perform_return(run, branch, statement, parts):
    """Ends the function."""
    return ("return", run.value_of(statement[1], branch))


def perform_raise(run, branch, statement, parts):
    """Raises an error."""
    return ("raise", statement[1])


def perform_become(run, branch, statement, parts):
    """Ends the run; the task goes on as a new call."""
    return ("become", statement[1], run.values_of(statement[2], branch))


def perform_try(run, branch, statement, parts):
    """The body, and the body of the handler if there is one for its error."""
    _, label, body, handlers = statement
    outcome = perform_body(run, branch, body, (*parts, (label, 0)))
    if outcome is None or outcome[0] != "raise":
        return outcome
    for number, (error, handler) in enumerate(handlers, start=1):
        if error == outcome[1]:
            return perform_body(run, branch, handler, (*parts, (label, number)))
    return outcome


def perform_call(run, branch, statement, parts):
    """Performs the function; x becomes the result."""
    _, label, variable, function, operands = statement
    here = (*parts, (label, 0))
    above = [*branch.above, (branch.owner, label, dict(branch.variables))]
    outcome = run.performed(
        function, run.values_of(operands, branch), (*branch.prefix, *here), above, branch.path, branch.marks
    )
    if outcome[0] == "stop":
        return branch.stop(here, (function, outcome[1]))
    if outcome[0] == "raise":
        return outcome
    branch.variables[variable] = outcome[1]
    return None


def question_of(run, branch, statement):
    """The question that an outer statement makes."""
    word = statement[0]
    if word in ("ask", "start"):
        return (word, statement[3], run.values_of(statement[4], branch))
    if word == "send":
        return (word, run.value_of(statement[2], branch), statement[3], run.value_of(statement[4], branch))
    if word == "receive":
        return (word, statement[3])
    return (word, max(0, run.value_of(statement[2], branch)))


def perform_outer(run, branch, statement, parts):
    """Asks something; goes on only with an answer of the story."""
    word, label = statement[:2]
    here = (*parts, (label, 0))
    question = question_of(run, branch, statement)
    index = run.note_step(branch, here)
    answer = run.answer_at(index, question, branch)
    if answer is None:
        return branch.stop(here, None)
    branch.path.append(index)
    if word in ("ask", "start", "receive"):
        branch.variables[statement[2]] = answer[1] if word == "receive" else answer
    return None


def perform_both(run, branch, statement, parts):
    """Performs both bodies, whatever the other one does; goes on if both have ended."""
    _, label, *bodies = statement
    here = (*parts, (label, 0))
    first, second = branch.parted(), branch.parted()
    one = perform_body(run, first, bodies[0], (*parts, (label, 0)))
    other = perform_body(run, second, bodies[1], (*parts, (label, 1)))
    if has_stopped(one) or has_stopped(other):
        return branch.stop(here, (body_of_tree(first, one), body_of_tree(second, other)))
    path_length, marks_length = len(branch.path), len(branch.marks)
    branch.take_over(first, bodies[0], path_length, marks_length)
    branch.take_over(second, bodies[1], path_length, marks_length)
    return other if one is None else one


def has_stopped(outcome):
    """Whether this is the outcome of a body that waits or has a difference somewhere."""
    return outcome is not None and outcome[0] == "stop"


def body_of_tree(branch, outcome):
    """What the tree tells of a body of a both."""
    if has_stopped(outcome):
        return outcome[1]
    return ("ended", dict(branch.variables), None if outcome is None else outcome[1])


def perform_since(run, branch, statement, parts):
    """The new arm with an entry, the old one at a mark that is passed; at any other mark the run waits."""
    _, label, new, old = statement
    here = (*parts, (label, 0))
    index = run.note_step(branch, here)
    arm = run.arm_at(index, branch)
    if arm is None:
        return branch.stop(here, None)
    if arm == "old":
        return perform_body(run, branch, old, parts)
    branch.path.append(index)
    return perform_body(run, branch, new, parts)


ACTIONS = {
    "set": perform_set, "if": perform_if, "match": perform_match, "loop": perform_loop, "break": perform_break,
    "return": perform_return, "raise": perform_raise, "try": perform_try, "call": perform_call, "ask": perform_outer,
    "send": perform_outer, "receive": perform_outer, "sleep": perform_outer, "start": perform_outer,
    "both": perform_both, "since": perform_since, "become": perform_become,
}
