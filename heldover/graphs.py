"""The text of a function as a graph: what is done after what.

A step has as its targets, by its word: "set", "outer", "call", "point", "zero" (before a loop) and "count" (behind a
round): what follows; "test": both bodies; "match": the cases; "head": the body of the loop, and what is behind it;
"both": the bodies, and what is behind them; "mark": both arms; "return", "finish" (the end of the body of a
function), "raise", "become" and "done" (the end of a body of a both): nothing.
"""

from heldover.codes import BEHIND_BOTH, BODY_ENDS, MOST_SLOTS, is_place
from heldover.effects import errors_of_body
from heldover.syntax import statements

ANY_ROUND = None


class Step:
    """A step of the text; parts are those of its position within the function, None if it has none.

    caught has the handlers (error, step) around it within the function and the body of a both; outside is the end of
    that body, None if there is none around it.
    """

    def __init__(self, word, parts, statement, site, targets):
        self.word = word
        self.parts = parts
        self.statement = statement
        self.caught = site.caught
        self.outside = site.outside
        self.targets = targets


class Around:
    """What stands around a statement."""

    def __init__(self, parts=(), caught=(), outside=None, left=None):
        self.parts = parts
        self.caught = caught
        self.outside = outside
        self.left = left

    def inside(self, label, number):
        """What stands around a body with this part."""
        return Around((*self.parts, (label, number)), self.caught, self.outside, self.left)


class Graph:
    """The steps of a function."""

    def __init__(self, version, name):
        self.version = version
        self.owner, self.params, self.inner, self.result, self.body = version.function(name)
        self.variables = [variable for variable, _ in (*self.params, *self.inner)]
        self.loops = {one[1]: True for _, one in statements(self.body) if one[0] == "loop"}
        self.steps = []
        self.by_parts = {}
        self.effect_table = {function: version.effects(function) for function in version.names()}
        finish = self.put_step("finish", None, None, Around())
        beginning = self.put_step("point", (), None, Around())
        self.lead(beginning, (self.add_body(self.body, finish, Around()),))

    def put_step(self, word, parts, statement, site, targets=()):
        """Adds a step and returns its number."""
        self.steps.append(Step(word, parts, statement, site, targets))
        if parts is not None:
            self.by_parts[parts] = len(self.steps) - 1
        return len(self.steps) - 1

    def lead(self, number, targets):
        """Lets a step lead to others."""
        step = self.steps[number]
        step.targets = targets

    def add_body(self, body, behind, site):
        """Adds the steps of a body, behind which another step follows; returns the number of the first one."""
        first = behind
        for statement in reversed(body):
            action = ACTIONS[statement[0]]
            first = action(self, statement, first, site)
        return first

    def errors_of(self, step):
        """The sorted list of the errors that a call, or the bodies of a both, may raise by the text."""
        if step.word == "call":
            return [effect[1] for effect in self.effect_table[step.statement[3]] if effect[0] == "raise"]
        found = [error for body in step.statement[2:] for error in errors_of_body(body, self.effect_table)]
        return sorted(set(found))

    def handler_of(self, step, error):
        """The step to which an error leads from a step, None if it has no handler here."""
        for name, handler in step.caught:
            if name == error:
                return handler
        return None


def add_simple(graph, statement, behind, site):
    """A statement that only sets a variable."""
    return graph.put_step("set", None, statement, site, (behind,))


def add_leaving(graph, statement, behind, site):
    """A statement behind which nothing follows."""
    return graph.put_step(statement[0], None, statement, site)


def add_break(graph, statement, behind, site):
    """What is behind the loop follows."""
    return site.left


def add_if(graph, statement, behind, site):
    """Two bodies."""
    targets = tuple([graph.add_body(body, behind, site) for body in statement[2:]])
    return graph.put_step("test", None, statement, site, targets)


def add_match(graph, statement, behind, site):
    """A body for each case."""
    targets = tuple([graph.add_body(body, behind, site) for _, _, body in statement[2]])
    return graph.put_step("match", None, statement, site, targets)


def add_loop(graph, statement, behind, site):
    """The head is a position; behind each round it follows again."""
    _, label, _, body = statement
    inside = site.inside(label, ANY_ROUND)
    inside.left = behind
    head = graph.put_step("head", inside.parts, statement, site)
    count = graph.put_step("count", None, statement, site, (head,))
    graph.lead(head, (graph.add_body(body, count, inside), behind))
    return graph.put_step("zero", None, statement, site, (head,))


def add_try(graph, statement, behind, site):
    """The beginning of each handler is a position."""
    _, label, body, handlers = statement
    caught = []
    for number, (error, handler) in enumerate(handlers, start=1):
        inside = site.inside(label, number)
        point = graph.put_step("point", inside.parts, None, site)
        graph.lead(point, (graph.add_body(handler, behind, inside),))
        caught.append((error, point))
    inside = site.inside(label, 0)
    inside.caught = (*caught, *site.caught)
    return graph.add_body(body, behind, inside)


def add_positioned(graph, statement, behind, site):
    """A statement that waits, or a call."""
    word = "call" if statement[0] == "call" else "outer"
    return graph.put_step(word, (*site.parts, (statement[1], 0)), statement, site, (behind,))


def add_both(graph, statement, behind, site):
    """Two bodies, each with an end of its own, and the place behind them."""
    _, label, *bodies = statement
    both = graph.put_step("both", (*site.parts, (label, 0)), statement, site)
    point = graph.put_step("point", (*site.parts, (label, BEHIND_BOTH)), None, site, (behind,))
    firsts = []
    for number, body in enumerate(bodies):
        done = graph.put_step("done", (*site.parts, (label, BODY_ENDS[number])), (both, number), site)
        firsts.append(graph.add_body(body, done, Around((*site.parts, (label, number)), (), done)))
    graph.lead(both, (*firsts, point))
    return both


def add_since(graph, statement, behind, site):
    """Two arms."""
    targets = tuple([graph.add_body(body, behind, site) for body in statement[2:]])
    return graph.put_step("mark", (*site.parts, (statement[1], 0)), statement, site, targets)


ACTIONS = {
    "set": add_simple, "if": add_if, "match": add_match, "loop": add_loop, "break": add_break, "return": add_leaving,
    "raise": add_leaving, "try": add_try, "call": add_positioned, "ask": add_positioned, "send": add_positioned,
    "receive": add_positioned, "sleep": add_positioned, "start": add_positioned, "both": add_both,
    "since": add_since, "become": add_leaving,
}


class Layer:
    """A function on the way to a position: its graph, the calls at which it is inlined, and a step in it.

    before has the parts of these calls; the step is the call at which the next function is inlined, or the one at the
    position.
    """

    def __init__(self, graph, path, before, step):
        self.graph = graph
        self.path = path
        self.before = before
        self.at_step = step

    def current_step(self):
        """The step itself."""
        return self.graph.steps[self.at_step]

    def moved_to(self, step):
        """The same function, at another step."""
        return Layer(self.graph, self.path, self.before, step)

    def whole_parts(self):
        """The parts of the position of the step, None if it has none."""
        own = self.current_step().parts
        return None if own is None else (*self.before, *own)

    def callee(self, texts):
        """The function that is called at the step, at its beginning."""
        call = self.current_step()
        graph = texts.graph_of(call.statement[3])
        beginning = graph.by_parts[()]
        return Layer(graph, (*self.path, call.statement[1]), (*self.before, *call.parts), beginning)


class Texts:
    """The graphs of the functions of a version, each made when it is asked for."""

    def __init__(self, version):
        self.version = version
        self.graphs = {}

    def graph_of(self, name):
        """The graph of a function."""
        if name not in self.graphs:
            self.graphs[name] = Graph(self.version, name)
        return self.graphs[name]

    def located(self, function, place):
        """The list of layers on the way to the position for which a place stands; None if it stands for none."""
        if not is_place(place, MOST_SLOTS):
            return None
        layers = []
        layer = Layer(self.graph_of(function), (), (), 0)
        parts = ()
        for at, (label, number) in enumerate(place):
            is_loop = label in layer.graph.loops
            if isinstance(number, tuple) and not is_loop:
                return None
            parts = (*parts, (label, ANY_ROUND if is_loop else number))
            step = layer.graph.by_parts.get(parts)
            if step is not None and layer.graph.steps[step].word == "call" and at + 1 < len(place):
                layers.append(layer.moved_to(step))
                layer = layers[-1].callee(self)
                parts = ()
        step = layer.graph.by_parts.get(parts)
        return None if step is None else [*layers, layer.moved_to(step)]
