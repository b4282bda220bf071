"""Paths of a code: what its blocks do from one on, with nodes as values."""

from heldover.facts import operated_node
from heldover.nodes import FALSE, TRUE
from heldover.operations import head_of, inner_of, is_mere_operand
from heldover.sources import MOST_PATHS


class CodePath:
    """A path of a code: what its slots hold (None for nothing), what is known on it, and how it ended.

    The end is ("point", block), ("return", node), ("raise", error), ("become", function, nodes), ("done",), or
    ("undefined",) if a slot is read that holds nothing, or a branch is on no truth.
    """

    def __init__(self, block, slots, facts):
        self.block = block
        self.slots = slots
        self.facts = facts
        self.conditions = ()
        self.fresh = False
        self.ending = None

    def go_to(self, block):
        """Stands at another block."""
        self.block = block

    def begin_here(self):
        """Does the block at which it stands, though it is a point."""
        self.fresh = True

    def fail(self, error):
        """Ends with an error."""
        self.ending = ("raise", error)

    def with_condition(self, block, number, truth):
        """A path that is the same until here, at another block, with a condition."""
        found = CodePath(block, list(self.slots), self.facts.with_truth(number, truth))
        found.conditions = (*self.conditions, (number, truth))
        return found


def operand_node(nodes, slots, operand):
    """The node of an operand, None for nothing."""
    return nodes.datum(operand[1]) if operand[0] == "value" else slots[operand[1]]


def operation_node(facts, slots, operation):
    """The node of an operation, None if it is not defined."""
    nodes = facts.nodes
    if is_mere_operand(operation):
        return operand_node(nodes, slots, operation)
    if operation[0] == "self":
        return nodes.node("self", (), (), (), "task")
    children = [operand_node(nodes, slots, operand) for operand in inner_of(operation)]
    if any([child is None for child in children]):
        return None
    return operated_node(nodes, facts, head_of(operation), children)


def code_paths(code, path):
    """The list of the paths that go on from a path; None if there are too many."""
    found, going = [], [path]
    while going:
        last = going.pop()
        while last.ending is None:
            going.extend(advance(code, last))
        found.append(last)
        if len(found) + len(going) > MOST_PATHS:
            return None
    return found


def advance(code, path):
    """Does one block of a path; returns the path that parts from it there, if one does, in a list."""
    place, steps, end = code[3][path.block]
    fresh, path.fresh = path.fresh, False
    if place is not None and not fresh:
        path.ending = ("point", path.block)
        return []
    for slot, operation in steps:
        path.slots[slot] = operation_node(path.facts, path.slots, operation)
    word = end[0]
    if word == "jump":
        path.block = end[1]
        return []
    if word == "branch":
        return branch(path, end)
    path.ending = leaving_end(path, end)
    return []


def leaving_end(path, end):
    """The end of a path at the end of a function or a body."""
    if end[0] not in ("return", "become"):
        return end
    nodes = path.facts.nodes
    operands = end[2] if end[0] == "become" else end[1:]
    numbers = [operand_node(nodes, path.slots, operand) for operand in operands]
    if any([number is None for number in numbers]):
        return ("undefined",)
    return ("return", numbers[0]) if end[0] == "return" else ("become", end[1], numbers)


def branch(path, end):
    """Goes on at one of two blocks."""
    nodes = path.facts.nodes
    number = operand_node(nodes, path.slots, end[1])
    if number is None or nodes.kind_list[number] != "bool":
        path.ending = ("undefined",)
        return []
    number = path.facts.rewritten(number)
    if number in (TRUE, FALSE):
        path.block = end[2] if number == TRUE else end[3]
        return []
    parted = path.with_condition(end[3], number, False)
    taken = path.with_condition(end[2], number, True)
    path.block, path.facts, path.conditions = taken.block, taken.facts, taken.conditions
    return [parted] if not parted.facts.impossible else []
