"""The pass "inline": the blocks of a function in the place of its calls."""

from heldover.codes import MOST_STEPS
from heldover.drafts import operand_with, operation_with, place_with, with_blocks, with_operands, with_slots
from heldover.graphs import Texts
from heldover.operations import head_of, inner_of
from heldover.termforms import ROUND, SLOT, VARIABLE, copied_table, has_operands, is_value_term


def under_path(term, path):
    """A term with a path in front of the paths of its variables and rounds."""
    if term is None or is_value_term(term):
        return term
    if term[0] in (VARIABLE, ROUND):
        return (term[0], (*path, *term[1]), term[2])
    if not has_operands(term):
        return term
    return (*head_of(term), *[under_path(operand, path) for operand in inner_of(term)])


def shifted_term(term, shift):
    """A recipe over slots that are so many further on."""
    if term is None or is_value_term(term):
        return term
    if term[0] == SLOT:
        return (SLOT, term[1] + shift)
    return (*head_of(term), *[shifted_term(operand, shift) for operand in inner_of(term)])


def can_come_in(code):
    """Whether there is a code, without a both."""
    return code is not None and all([end[0] != "both" for _, _, end in code[3]])


class Coming:
    """The blocks of a function that come in for one call, with their slots from one on."""

    def __init__(self, draft, block, code, code_map, version, shift):
        self.draft = draft
        self.version = version
        self.call = draft.ends[block]
        self.where = draft.places[block]
        self.meanings, self.recipes = draft.rows.pop(block)
        self.code = code
        self.code_map = code_map
        self.shift = shift
        self.slots = {slot: slot + shift for slot in range(code[2])}
        self.operands = {slot: (SLOT, slot + shift) for slot in range(code[2])}
        layers = Texts(version).located(draft.owner, self.where)
        self.path = (*layers[-1].path, self.where[-1][0])
        first = len(draft.ends)
        self.block_table = {number: first + number for number in range(len(code[3]))}
        draft.places[block] = None
        draft.step_lists[block] = [(slot + self.shift, operand) for slot, operand in enumerate(self.call[3])]
        draft.ends[block] = ("jump", first)

    def come_in(self):
        """Adds the blocks, with their rows."""
        draft = self.draft
        for number, (place, steps, end) in enumerate(self.code[3]):
            where = None if not place else (*self.where, *place_with(place, self.slots))
            moved = [(slot + self.shift, operation_with(one, self.operands)) for slot, one in steps]
            block = draft.add_block(where, moved, ("done",))
            if where is not None:
                draft.rows[block] = self.row(self.code_map[number])
        for number, (_, _, end) in enumerate(self.code[3]):
            self.finish(self.block_table[number], end)

    def row(self, row):
        """The row of a point: what is known at the call, and what the function knows there."""
        meanings = list(self.meanings)
        for slot, meaning in enumerate(row[0]):
            meanings[slot + self.shift] = under_path(meaning, self.path)
        recipes = copied_table(self.recipes)
        for variable, recipe in row[1].items():
            recipes[under_path(variable, self.path)] = shifted_term(recipe, self.shift)
        return (meanings, recipes)

    def finish(self, block, end):
        """Ends a block that has come in: what ends the function leads to what is behind the call."""
        draft = self.draft
        blocks = {name: behind for name, behind in self.call[5]}
        if end[0] == "return":
            if self.call[1] is not None:
                self.add_result(block, operand_with(end[1], self.operands))
            else:
                draft.ends[block] = ("jump", self.call[4])
            return
        if end[0] == "raise" and end[1] in blocks:
            draft.ends[block] = ("jump", blocks[end[1]])
            return
        end = with_operands(with_slots(with_blocks(end, self.block_table), self.slots), self.operands)
        if end[0] == "call":
            handled = [name for name, _ in end[5]]
            errors = [effect[1] for effect in self.version.effects(end[2]) if effect[0] == "raise"]
            further = [(name, blocks[name]) for name in errors if name in blocks and name not in handled]
            end = (*end[:5], (*end[5], *further))
        draft.ends[block] = end

    def add_result(self, block, operand):
        """Gives the slot of the call its result, and goes on behind it."""
        draft = self.draft
        if len(draft.step_lists[block]) == MOST_STEPS:
            further = draft.add_block(None, [], ("done",))
            draft.ends[block] = ("jump", further)
            block = further
        draft.step_lists[block].append((self.call[1], operand))
        draft.ends[block] = ("jump", self.call[4])


def inline(draft, label, version, codes, maps):
    """Inlines all calls with this label; returns the names of the functions that came in.

    Nothing is kept in their slots outside of them, so that they may all have the same ones.
    """
    found, shift = {}, draft.slot_count
    for block in draft.blocks():
        end, place = draft.ends[block], draft.places[block]
        if end[0] == "call" and place[-1][0] == label and can_come_in(codes.get(end[2])):
            found[block] = end[2]
    for _ in range(max([codes[name][2] for name in found.values()], default=0)):
        draft.add_slot()
    for block, name in found.items():
        Coming(draft, block, codes[name], maps[name], version, shift).come_in()
    return list(found.values())
