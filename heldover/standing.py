"""Where a plain run stands in codes, by their maps."""

from heldover.codes import WAITING_WORDS
from heldover.errors import NoPoint
from heldover.syntax import statements
from heldover.termforms import ROUND, VARIABLE, value_in

JOINING_WORDS = ("call", "both")


def taken_meaning(code_map, end, slot):
    """What a slot means that a both takes over: behind it, or else at the first block of an error that tells."""
    for block in (end[5], *[block for _, block in end[6]]):
        if code_map[block][0][slot] is not None:
            return code_map[block][0][slot]
    return None


def is_of_sort(end, inner):
    """Whether the end of a block is of the sort of a node with this inner part."""
    if inner is None:
        return end[0] in WAITING_WORDS and end[0] not in JOINING_WORDS
    return end[0] == ("call" if isinstance(inner[0], str) else "both")


class Surrounding:
    """What stands around a node: the function of its code, calls that are inlined there, and values of unknowns."""

    def __init__(self, name, owner, path=(), before=(), known=()):
        self.name = name
        self.owner = owner
        self.path = path
        self.before = before
        self.known = {unknown: known[unknown] for unknown in known}

    def with_node(self, loops, parts, variables):
        """A copy that has the values of a node of its own function, too."""
        found = Surrounding(self.name, self.owner, self.path, self.before, self.known)
        for variable, value in variables.items():
            found.known[VARIABLE, self.path, variable] = value
        for label, number in parts:
            if label in loops:
                found.known[ROUND, self.path, label] = number
        return found

    def inside(self, parts, callee):
        """What stands around the node of a function whose call, with these parts, is inlined."""
        return Surrounding(self.name, callee, (*self.path, parts[-1][0]), (*self.before, *parts), self.known)


class Standpoint:
    """Makes frames of a run."""

    def __init__(self, codes, maps, run):
        self.code_table = codes
        self.map_table = maps
        self.version = run.version
        self.task_name = run.name

    def loops_of(self, name):
        """The labels of the loops of a function."""
        body = self.version.function(name)[4]
        return [statement[1] for _, statement in statements(body) if statement[0] == "loop"]

    def value_at(self, term, around):
        """The value of a term, None for none."""
        return None if term is None else value_in(term, around.known, self.task_name)

    def frame_at(self, tree):
        """The frame of a tree (function, node)."""
        name, node = tree
        return (name, self.branch_at(node, Surrounding(name, name)))

    def branch_at(self, node, around):
        """The branch of a node."""
        first = node[0]
        while True:
            parts, variables, inner = node
            around = around.with_node(self.loops_of(around.owner), parts, variables)
            block = self.block_at((*around.before, *parts), inner, around)
            if block is not None:
                return self.branch_in(block, inner, around)
            if inner is None or not isinstance(inner[0], str):
                raise NoPoint(first)
            around = around.inside(parts, inner[0])
            node = inner[1]

    def block_at(self, parts, inner, around):
        """The block that has these parts as its place, or None; of several the one with the fewest slots there."""
        fitting = []
        code = self.code_table.get(around.name)
        for block, (place, _, end) in enumerate(() if code is None else code[3]):
            if place is not None and is_of_sort(end, inner) and self.fits(block, place, parts, around):
                count = len([number for _, number in place if isinstance(number, tuple)])
                fitting.append((count, block))
        return min(fitting)[1] if fitting else None

    def fits(self, block, place, parts, around):
        """Whether a place, its numbers by their meanings, has these parts."""
        if [label for label, _ in place] != [label for label, _ in parts]:
            return False
        meanings = self.map_table[around.name][block][0]
        for (_, number), (_, wanted) in zip(place, parts):
            if isinstance(number, tuple):
                number = self.value_at(meanings[number[1]], around)
            if isinstance(number, bool) or number != wanted:
                return False
        return True

    def branch_in(self, block, inner, around):
        """The branch that stands at a block."""
        meanings = self.map_table[around.name][block][0]
        slots = tuple([self.value_at(meaning, around) for meaning in meanings])
        if inner is None:
            return (slots, block, None)
        if isinstance(inner[0], str):
            return (slots, block, self.frame_at(inner))
        end = self.code_table[around.name][3][block][2]
        return (slots, block, tuple([self.body_at(node, end, number, around) for number, node in enumerate(inner)]))

    def body_at(self, node, end, number, around):
        """The body of a both."""
        if node[0] != "ended":
            return self.branch_at(node, around)
        around = around.with_node((), (), node[1])
        slots = [None] * self.code_table[around.name][2]
        for slot in end[3 + number]:
            slots[slot] = self.value_at(taken_meaning(self.map_table[around.name], end, slot), around)
        return ("ended", tuple(slots), node[2])
