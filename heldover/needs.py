"""Which variables are needed at the steps of the text; sets of variables are integers, with a bit for each one."""

from heldover.expressions import variables_in
from heldover.living import mask_of
from heldover.syntax import expressions_of, set_in, variables_set


class Needs:
    """The variables of a function that are needed at each step of its graph."""

    def __init__(self, graph):
        self.graph = graph
        self.bits = {name: number for number, name in enumerate(graph.variables)}
        self.masks = [0] * len(graph.steps)
        self.errors = {}
        for number, step in enumerate(graph.steps):
            if step.word in ("call", "both"):
                self.errors[number] = graph.errors_of(step)
        changed = True
        while changed:
            changed = False
            for number, step in enumerate(graph.steps):
                mask = self.read_by(step) | self.needed_behind(number, step)
                if mask != self.masks[number]:
                    self.masks[number] = mask
                    changed = True

    def mask(self, names):
        """The set of these variables."""
        return mask_of([self.bits[name] for name in names])

    def read_by(self, step):
        """The variables that the statement of a step reads itself."""
        if step.word not in ("set", "test", "match", "return", "become", "outer", "call"):
            return 0
        return self.mask([name for one in expressions_of(step.statement) for name in variables_in(one)])

    def failing(self, step, errors):
        """The variables that are needed where errors lead from a step."""
        mask = 0
        for error in errors:
            handler = self.graph.handler_of(step, error)
            if handler is not None:
                mask = mask | self.masks[handler]
            elif step.outside is not None:
                mask = mask | self.masks[step.outside]
        return mask

    def needed_behind(self, number, step):
        """The variables that are needed behind a step, before it sets what it sets."""
        if step.word == "raise":
            return self.failing(step, [step.statement[1]])
        if step.word == "call":
            return self.behind_call(number)
        if step.word == "done":
            return self.at_body_end(step)
        mask = 0
        if step.word == "both":
            one, other, _ = step.targets
            return self.masks[one] | self.masks[other] | self.behind_both(number) & ~self.set_by(step, (0, 1))
        if step.word == "match":
            for (_, names, _), target in zip(step.statement[2], step.targets):
                mask = mask | self.masks[target] & ~self.mask(names)
            return mask
        for target in step.targets:
            mask = mask | self.masks[target]
        return mask & ~self.mask(variables_set(step.statement)) if step.word in ("set", "outer") else mask

    def behind_call(self, number):
        """The variables that are needed behind a call, on all ways, without what gets the result."""
        step = self.graph.steps[number]
        behind = self.masks[step.targets[0]] & ~self.mask(variables_set(step.statement))
        return behind | self.failing(step, self.errors[number])

    def set_by(self, step, numbers):
        """The variables that these bodies of a both set."""
        return self.mask([name for number in numbers for name in set_in(step.statement[2 + number])])

    def behind_both(self, number):
        """The variables that are needed behind a both, or where the errors of its bodies lead."""
        step = self.graph.steps[number]
        return self.masks[step.targets[2]] | self.failing(step, self.errors[number])

    def at_body_end(self, step):
        """The variables that are needed at the end of a body of a both."""
        both, number = step.statement
        return self.behind_both(both) & self.set_by(self.graph.steps[both], (number,))

    def named(self, mask):
        """The names of a set of variables."""
        return [name for name, bit in self.bits.items() if mask >> bit & 1]


def needed_at(layers, known):
    """The sorted list of the variables that are needed at the position of the last of these layers.

    known keeps what was found of functions, by their names.
    """
    found = []
    for at, layer in enumerate(layers, start=1):
        name = layer.graph.owner
        if name not in known:
            known[name] = Needs(layer.graph)
        needs = known[name]
        mask = needs.masks[layer.at_step] if at == len(layers) else needs.behind_call(layer.at_step)
        found.extend([("var", layer.path, variable) for variable in needs.named(mask)])
    return sorted(found)
