"""Making the blocks and the map of a code, one after the other."""

from heldover.codes import MOST_STEPS
from heldover.expressions import operands_of
from heldover.syntax import bodies_of

FIRST_BLOCK = 0


def loop_depth(body):
    """How many loops lie within each other in a body."""
    depths = [0]
    for statement in body:
        inner = max([loop_depth(one) for one in bodies_of(statement)], default=0)
        depths.append(inner + 1 if statement[0] == "loop" else inner)
    return max(depths)


def term_of(expression):
    """The term with the value of an expression."""
    if isinstance(expression, str):
        return ("var", (), expression)
    if not isinstance(expression, tuple):
        return ("value", expression)
    terms = [term_of(operand) for operand in operands_of(expression)]
    return with_operands(expression, terms)


def with_operands(expression, operands):
    """An operation like the expression, with other operands."""
    return (*expression[:len(expression) - len(operands)], *operands)


class Site:
    """What stands around a statement: parts of its place, loops, handlers of errors, and the block behind the loop."""

    def __init__(self, parts=(), loops=(), caught=(), behind=None):
        self.parts = parts
        self.loops = loops
        self.caught = caught
        self.behind = behind

    def in_loop(self, label, slot, behind):
        """What stands around the body of a loop whose round is in the slot."""
        return Site((*self.parts, (label, ("slot", slot))), (*self.loops, label), self.caught, behind)

    def in_try(self, label, handlers):
        """What stands around the body of a try with these (error, block)."""
        return Site((*self.parts, (label, 0)), self.loops, (*handlers, *self.caught), self.behind)

    def in_handler(self, label, number):
        """What stands around the body of a handler."""
        return Site((*self.parts, (label, number)), self.loops, self.caught, self.behind)

    def in_both(self, label, number):
        """What stands around a body of a both, which nothing leaves but its end."""
        return Site((*self.parts, (label, number)), self.loops)

    def place(self, label, number=0):
        """The place of a statement here, or of another position that has its label."""
        return (*self.parts, (label, number))

    def handler(self, error):
        """The block to which an error leads here, or None."""
        for name, block in self.caught:
            if name == error:
                return block
        return None

    def handlers(self, errors):
        """The tuple of (error, block) for those of the errors that are handled here."""
        return tuple([(error, self.handler(error)) for error in errors if self.handler(error) is not None])


class Maker:
    """The blocks of a function while they are made.

    The slots are those of the variables, then one for each loop around a statement, then spare ones, which hold what
    was computed for one statement and nothing behind it.
    """

    def __init__(self, version, name):
        self.version = version
        self.owner, self.params, self.inner, self.result, self.body = version.function(name)
        self.slot_of = {}
        for variable, _ in (*self.params, *self.inner):
            self.slot_of[variable] = len(self.slot_of)
        self.first_spare = len(self.slot_of) + loop_depth(self.body)
        self.slot_count = self.first_spare
        self.places = []
        self.step_lists = []
        self.ends = []
        self.held = {}
        self.here = None
        self.begin(self.add_block(()))
        self.held[FIRST_BLOCK] = {self.slot_of[variable]: ("var", (), variable) for variable, _ in self.params}

    def round_slot(self, site):
        """The slot for the round of a loop that stands here."""
        return len(self.slot_of) + len(site.loops)

    def add_block(self, place):
        """Adds a block with this place, or None; returns its number."""
        self.places.append(place)
        self.step_lists.append([])
        self.ends.append(None)
        return len(self.places) - 1

    def add_point(self, place, site, spare):
        """Adds a block with a place; spare has the terms that are held in spare slots there."""
        block = self.add_block(place)
        terms = {self.slot_of[variable]: ("var", (), variable) for variable in self.slot_of}
        for depth, label in enumerate(site.loops):
            terms[len(self.slot_of) + depth] = ("round", (), label)
        terms.update(spare)
        self.held[block] = terms
        return block

    def begin(self, block):
        """Goes on in this block."""
        self.here = block

    def finish(self, end):
        """Ends the block, if it has not ended yet."""
        if self.here is not None:
            self.ends[self.here] = end
        self.here = None

    def jump_to(self, block):
        """Ends the block with a jump, if it has not ended yet."""
        self.finish(("jump", block))

    def add_step(self, slot, operation):
        """Adds a step; a block that is full goes on in another one."""
        if len(self.step_lists[self.here]) == MOST_STEPS:
            block = self.add_block(None)
            self.jump_to(block)
            self.begin(block)
        self.step_lists[self.here].append((slot, operation))
        self.slot_count = max(self.slot_count, slot + 1)

    def add_operation(self, slot, expression, spare):
        """Gives the slot the value of an expression, with the help of spare slots from this one on."""
        if isinstance(expression, tuple):
            operands, _ = self.operands_for(operands_of(expression), spare)
            self.add_step(slot, with_operands(expression, operands))
        else:
            self.add_step(slot, self.operand_for(expression, spare))

    def operand_for(self, expression, spare):
        """The operand with the value of an expression; if it must be computed, it is in the spare slot."""
        if isinstance(expression, str):
            return ("slot", self.slot_of[expression])
        if not isinstance(expression, tuple):
            return ("value", expression)
        self.add_operation(spare, expression, spare)
        return ("slot", spare)

    def operands_for(self, expressions, spare):
        """The operands with the values of expressions, and the terms of those that are held in spare slots."""
        operands, held = [], {}
        for expression in expressions:
            operands.append(self.operand_for(expression, spare))
            if isinstance(expression, tuple):
                held[spare] = term_of(expression)
                spare += 1
        return tuple(operands), held

    def recipes_at(self, block):
        """The recipes at a point: each variable is in its slot, but before the first step locals are zeros."""
        recipes = {("var", (), variable): ("slot", slot) for variable, slot in self.slot_of.items()}
        if block == FIRST_BLOCK:
            for variable, kind in self.inner:
                recipes["var", (), variable] = ("value", self.version.kinds().zero(kind))
        return recipes

    def made_code(self):
        """The code of all blocks."""
        blocks = [(place, tuple(steps), end) for place, steps, end in zip(self.places, self.step_lists, self.ends)]
        return (self.owner, len(self.params), self.slot_count, tuple(blocks))

    def made_map(self):
        """The map of the code."""
        return {
            block: (tuple([terms.get(slot) for slot in range(self.slot_count)]), self.recipes_at(block))
            for block, terms in self.held.items()
        }
