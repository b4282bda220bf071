"""Paths of the text: what it does from a position on, with nodes as values."""

from heldover.building import expressed
from heldover.expressions import operands_of
from heldover.nodes import FALSE, TRUE
from heldover.termforms import ROUND, VARIABLE, copied_table

MOST_PATHS = 64
# A path without an end would be longer; the text of one path is never as long between two points.
MOST_STEPS = 4000
LARGE = 100


class SourcePath:
    """A path of the text: where it stands, what its variables hold, and how it ended.

    The end is ("point", parts), ("return", node), ("raise", error), ("become", function, nodes), ("done",), or
    ("lost",) at a statement that waits and has no point.
    """

    def __init__(self, layers, table, facts):
        self.layers = layers
        self.table = table
        self.facts = facts
        self.weights = {}
        self.large = False
        self.fresh = False
        self.count = 0
        self.ending = None

    def copied(self, facts):
        """A path that is the same until here, with other facts."""
        found = SourcePath(self.layers, copied_table(self.table), facts)
        found.weights = copied_table(self.weights)
        found.large = self.large
        found.count = self.count
        return found

    def begin_here(self):
        """Performs the step at which it stands, though the code has a point there."""
        self.fresh = True

    def last(self):
        """The layer in which it stands."""
        return self.layers[-1]

    def step(self):
        """The step at which it stands."""
        return self.layers[-1].current_step()

    def go_to(self, step):
        """Stands at another step of the same function."""
        self.layers = (*self.layers[:-1], self.layers[-1].moved_to(step))

    def weight_of(self, expression):
        """How many operations and unknowns the value of an expression has, written out."""
        if isinstance(expression, str):
            return self.weights.get((VARIABLE, self.last().path, expression), 1)
        if not isinstance(expression, tuple):
            return 0
        return 1 + sum([self.weight_of(operand) for operand in operands_of(expression)])

    def value_of(self, expression):
        """The node of an expression."""
        number = expressed(self.facts, expression, self.last().path, self.table)
        products = self.facts.nodes.sums.get(number, ())
        if self.weight_of(expression) > LARGE or len(products) > LARGE:
            self.large = True
        return number

    def give(self, name, number, weight=1):
        """Gives a variable of the function another value."""
        variable = (VARIABLE, self.last().path, name)
        self.table[variable] = number
        self.weights[variable] = min(weight, LARGE + 1)

    def round_unknown(self):
        """The unknown for the round of the loop at whose step it stands."""
        return (ROUND, self.last().path, self.step().statement[1])


class SourceWalk:
    """Performs the text until paths end; stops has the positions at which the code has a point as its keys."""

    def __init__(self, texts, nodes, stops):
        self.texts = texts
        self.nodes = nodes
        self.stops = stops

    def paths(self, path):
        """The list of the paths that go on from a path; None if there are too many."""
        found, going = [], [path]
        while going:
            last = going.pop()
            while last.ending is None:
                last.count += 1
                if last.count > MOST_STEPS:
                    return None
                going.extend(self.advance(last))
            found.append(last)
            if len(found) + len(going) > MOST_PATHS:
                return None
        return found

    def advance(self, path):
        """Performs one step of a path; returns the paths that part from it there."""
        step = path.step()
        fresh, path.fresh = path.fresh, False
        if step.parts is not None and not fresh and path.last().whole_parts() in self.stops:
            path.ending = ("point", path.last().whole_parts())
            return []
        action = ACTIONS[step.word]
        return action(self, path, step)

    def fork(self, path, condition, one, other):
        """Goes on at one of two steps by a condition; returns the path for the other one, if there is one."""
        number = path.facts.rewritten(condition)
        if number in (TRUE, FALSE):
            path.go_to(one if number == TRUE else other)
            return []
        parted = path.copied(path.facts.with_truth(number, False))
        parted.go_to(other)
        path.facts = path.facts.with_truth(number, True)
        path.go_to(one)
        return [parted] if not parted.facts.impossible else []

    def leave(self, path, number):
        """Ends a function with this result."""
        if len(path.layers) == 1:
            path.ending = ("return", number)
            return
        path.layers = path.layers[:-1]
        step = path.step()
        path.give(step.statement[2], number, LARGE if path.large else 1)
        path.go_to(step.targets[0])

    def fail(self, path, error):
        """Raises an error at the step at which the path stands."""
        while True:
            handler = path.last().graph.handler_of(path.step(), error)
            if handler is not None:
                path.go_to(handler)
                return
            if path.step().outside is not None or len(path.layers) == 1:
                path.ending = ("raise", error)
                return
            path.layers = path.layers[:-1]


def walk_set(walk, path, step):
    """x becomes the value."""
    _, name, expression = step.statement
    path.give(name, path.value_of(expression), path.weight_of(expression))
    path.go_to(step.targets[0])
    return []


def walk_test(walk, path, step):
    """One of two bodies."""
    return walk.fork(path, path.value_of(step.statement[1]), step.targets[0], step.targets[1])


def walk_match(walk, path, step):
    """The case of the tag, or all that are possible."""
    nodes = walk.nodes
    expression = step.statement[1]
    number = path.facts.rewritten(path.value_of(expression))
    weight = path.weight_of(expression) + 1
    known = path.facts.tag_of(number)
    parted = []
    for (tag, names, _), target in zip(step.statement[2], step.targets):
        facts = path.facts
        if known is None:
            facts = facts.with_truth(nodes.asked(tag, number), True)
        if facts.impossible or known is not None and known != tag:
            continue
        taken = path.copied(facts)
        for place, name in enumerate(names):
            taken.give(name, nodes.part(tag, place, facts.rewritten(number)), weight)
        taken.go_to(target)
        parted.append(taken)
    if not parted:
        path.ending = ("lost",)
        return []
    path.layers, path.table, path.weights, path.facts = (
        parted[0].layers, parted[0].table, parted[0].weights, parted[0].facts
    )
    return parted[1:]


def walk_zero(walk, path, step):
    """Before the first round."""
    path.table[path.round_unknown()] = walk.nodes.integer(0)
    path.go_to(step.targets[0])
    return []


def walk_count(walk, path, step):
    """Behind a round."""
    unknown = path.round_unknown()
    path.table[unknown] = walk.nodes.added(path.table[unknown], walk.nodes.integer(1))
    path.go_to(step.targets[0])
    return []


def walk_head(walk, path, step):
    """Whether there is another round."""
    nodes = walk.nodes
    left = nodes.added(nodes.integer(step.statement[2]), path.table[path.round_unknown()], -1)
    return walk.fork(path, nodes.positive(left), step.targets[0], step.targets[1])


def walk_return(walk, path, step):
    """Ends the function."""
    walk.leave(path, path.value_of(step.statement[1]))
    return []


def walk_finish(walk, path, step):
    """Ends the function with the zero of its kind."""
    graph = path.last().graph
    walk.leave(path, walk.nodes.datum(graph.version.kinds().zero(graph.result)))
    return []


def walk_raise(walk, path, step):
    """Raises an error."""
    walk.fail(path, step.statement[1])
    return []


def walk_become(walk, path, step):
    """Ends the run."""
    path.ending = ("become", step.statement[1], [path.value_of(operand) for operand in step.statement[2]])
    return []


def walk_call(walk, path, step):
    """Performs a function whose call has no point."""
    numbers = [path.value_of(operand) for operand in step.statement[4]]
    path.layers = (*path.layers, path.last().callee(walk.texts))
    graph = path.last().graph
    kinds = graph.version.kinds()
    for name, kind in graph.inner:
        path.give(name, walk.nodes.datum(kinds.zero(kind)), 0)
    for (name, _), number in zip(graph.params, numbers):
        path.give(name, number)
    path.fresh = True
    return []


def walk_point(walk, path, step):
    """Goes on."""
    path.go_to(step.targets[0])
    return []


def walk_done(walk, path, step):
    """The end of a body of a both."""
    path.ending = ("done",)
    return []


def walk_lost(walk, path, step):
    """A statement that waits, and has no point."""
    path.ending = ("lost",)
    return []


ACTIONS = {
    "set": walk_set, "test": walk_test, "match": walk_match, "zero": walk_zero, "count": walk_count,
    "head": walk_head, "return": walk_return, "finish": walk_finish, "raise": walk_raise, "become": walk_become,
    "call": walk_call, "point": walk_point, "done": walk_done, "outer": walk_lost, "both": walk_lost,
    "mark": walk_lost,
}
