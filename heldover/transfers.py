"""What must hold at the ends of the bodies of boths, so that what is behind them is right.

A demand is a pair of terms (left, right) that must be equal: the left one is over slots, and perhaps over variables
and rounds that no body changes, the right one over variables and rounds.
"""

from heldover.building import built
from heldover.syntax import set_in
from heldover.termforms import SLOT, VARIABLE, copied_table, put_in, unknowns_in


def region_of(ways, first):
    """The blocks to which ways lead from a block, other than into the bodies of boths."""
    found, waiting = {first: True}, [first]
    while waiting:
        for block in ways[waiting.pop()]:
            if block not in found:
                found[block] = True
                waiting.append(block)
    return found


def demands_at(point):
    """The demands that hold where a path ends at a point: what slots mean, recipes, and the rounds in its place."""
    found = [((SLOT, slot), meaning) for slot, meaning in enumerate(point.meanings) if meaning is not None]
    for variable in sorted(point.recipes):
        if point.recipes[variable] is not None:
            found.append((point.recipes[variable], variable))
    for _, number, unknown in point.rounds():
        found.append((number if isinstance(number, tuple) else ("value", number), unknown))
    return found


class Meeting:
    """A path of the text and a path of a code where they have ended: what is known, and what they hold."""

    def __init__(self, facts, slots, table):
        self.facts = facts
        self.table = table
        self.known = copied_table(table)
        for slot, number in enumerate(slots):
            if number is not None:
                self.known[SLOT, slot] = number

    def are_equal_nodes(self, one, other):
        """Whether two nodes are equal; None is equal to nothing."""
        if one is None or other is None:
            return False
        return one == other or self.facts.rewritten(one) == self.facts.rewritten(other)

    def meets(self, demand):
        """Whether a demand holds."""
        left, right = demand
        return self.are_equal_nodes(built(self.facts, left, self.known), built(self.facts, right, self.table))


class Both:
    """A both of the code, with the demands at the ends of its bodies."""

    def __init__(self, point, end):
        self.point = point
        self.ending = end
        self.taken = (end[3], end[4])
        layer = point.layers[-1]
        bodies = point.step().statement[2:]
        self.set_in_bodies = [[(VARIABLE, layer.path, name) for name in set_in(body)] for body in bodies]
        self.demands = ([], [])
        self.regions = []
        source, code = point.beginning()
        self.meeting = Meeting(source.facts, code.slots, source.table)

    def changed(self, term):
        """The numbers of the bodies that set a variable in a term."""
        found = unknowns_in(term)
        return [number for number in range(2) if any([name in found for name in self.set_in_bodies[number]])]

    def add_demand(self, demand):
        """Adds a demand on what is behind the both, to its ends or at itself; returns whether it can be met."""
        left, right = demand
        slots = [unknown[1] for unknown in unknowns_in(left) if unknown[0] == SLOT]
        bodies = [number for number in range(2) if any([slot in self.taken[number] for slot in slots])]
        table = {}
        for slot in slots:
            if slot not in self.taken[0] and slot not in self.taken[1]:
                meaning = self.point.meanings[slot]
                if meaning is None or self.changed(meaning):
                    return False
                table[SLOT, slot] = meaning
        bodies = sorted(set([*bodies, *self.changed(right), *self.changed(left)]))
        if len(bodies) > 1:
            return False
        left = put_in(left, table)
        if bodies:
            self.demands[bodies[0]].append((left, right))
            return True
        return self.meeting.meets((left, right))
