"""A code with its map while a pass changes it."""

from heldover.codes import END_SHAPES, MOST_BLOCKS, MOST_SLOTS, MOST_STEPS, is_code
from heldover.frames import has_map_form
from heldover.operations import head_of, inner_of, is_mere_operand, slot_reads
from heldover.termforms import SLOT, copied_table, put_in, unknowns_in
from heldover.ways import gives, reads, targets


def with_blocks(end, table):
    """An end with other blocks; the table has the new one for those that change."""
    found = [end[0]]
    for what, item in zip(END_SHAPES[end[0]], end[1:]):
        if what == "block":
            item = table.get(item, item)
        if what == "errors":
            item = tuple([(name, table.get(block, block)) for name, block in item])
        found.append(item)
    return tuple(found)


def operand_with(operand, table):
    """An operand, or what the table has for its slot."""
    return table.get(operand[1], operand) if operand[0] == "slot" else operand


def with_operands(end, table):
    """An end with other operands; the table has those for the slots that change."""
    found = [end[0]]
    for what, item in zip(END_SHAPES[end[0]], end[1:]):
        if what == "operand":
            item = operand_with(item, table)
        if what == "operands":
            item = tuple([operand_with(operand, table) for operand in item])
        found.append(item)
    return tuple(found)


def with_slots(end, table):
    """An end with other slots for its answer and those that are taken over; the table has the new ones."""
    found = [end[0]]
    for what, item in zip(END_SHAPES[end[0]], end[1:]):
        if what == "answer" and item is not None:
            item = table[item]
        if what == "slots":
            item = tuple([table[slot] for slot in item])
        found.append(item)
    return tuple(found)


def place_with(place, table):
    """A place with other slots; the table has the new ones."""
    found = []
    for label, number in place:
        found.append((label, (SLOT, table[number[1]]) if isinstance(number, tuple) else number))
    return tuple(found)


def slots_of(place, steps, end):
    """The slots that a block names."""
    found = [*reads(end), *gives(end)]
    for slot, operation in steps:
        found.extend([slot, *slot_reads(operation)])
    return [*found, *[number[1] for _, number in place or () if isinstance(number, tuple)]]


def operation_with(operation, table):
    """An operation with other operands; the table has those for the slots that change."""
    if is_mere_operand(operation):
        return operand_with(operation, table)
    return (*head_of(operation), *[operand_with(operand, table) for operand in inner_of(operation)])


class Draft:
    """Blocks in lists, and rows of the map; a row is a list of meanings and a dict of recipes."""

    def __init__(self, code, code_map):
        self.code_given = code
        self.map_given = code_map
        self.owner, self.parameters, self.slot_count, blocks = code
        self.places = [place for place, _, _ in blocks]
        self.step_lists = [list(steps) for _, steps, _ in blocks]
        self.ends = [end for _, _, end in blocks]
        self.rows = {block: (list(meanings), copied_table(recipes)) for block, (meanings, recipes) in code_map.items()}

    def blocks(self):
        """The numbers of the blocks."""
        return list(range(len(self.ends)))

    def add_block(self, place, steps, end):
        """Adds a block and returns its number."""
        self.places.append(place)
        self.step_lists.append(list(steps))
        self.ends.append(end)
        return len(self.ends) - 1

    def add_copy(self, block, place):
        """Adds a copy of a block with another place; returns its number."""
        found = self.add_block(place, self.step_lists[block], self.ends[block])
        if block in self.rows and place is not None:
            meanings, recipes = self.rows[block]
            self.rows[found] = (list(meanings), copied_table(recipes))
        return found

    def add_slot(self):
        """Adds a slot without a meaning and returns it."""
        for meanings, _ in self.rows.values():
            meanings.append(None)
        self.slot_count += 1
        return self.slot_count - 1

    def redirect(self, block, table):
        """Lets a block lead to other blocks, by a dict."""
        self.ends[block] = with_blocks(self.ends[block], table)

    def code_now(self):
        """The code."""
        blocks = [(place, tuple(steps), end) for place, steps, end in zip(self.places, self.step_lists, self.ends)]
        return (self.owner, self.parameters, self.slot_count, tuple(blocks))

    def used_slots(self):
        """The sorted list of the slots of parameters, and of those that blocks and recipes name."""
        found = list(range(self.parameters))
        for place, steps, end in zip(self.places, self.step_lists, self.ends):
            found.extend(slots_of(place, steps, end))
        for _, recipes in self.rows.values():
            for recipe in recipes.values():
                found.extend([unknown[1] for unknown in unknowns_in(recipe or ("value", 0))])
        return sorted(set(found))

    def drop_slots(self):
        """Leaves out the slots that are not needed at all."""
        used = self.used_slots()
        table = {slot: number for number, slot in enumerate(used)}
        operands = {slot: (SLOT, table[slot]) for slot in used}
        terms = {(SLOT, slot): (SLOT, table[slot]) for slot in used}
        for block in self.blocks():
            steps = [(table[slot], operation_with(operation, operands)) for slot, operation in self.step_lists[block]]
            self.step_lists[block] = steps
            self.ends[block] = with_operands(with_slots(self.ends[block], table), operands)
            if self.places[block] is not None:
                self.places[block] = place_with(self.places[block], table)
        for block, (meanings, recipes) in list(self.rows.items()):
            moved = {one: None if recipes[one] is None else put_in(recipes[one], terms) for one in recipes}
            self.rows[block] = ([meanings[slot] for slot in used], moved)
        self.slot_count = len(used)

    def made(self):
        """The code and the map; those that were given, if a limit is exceeded."""
        if self.slot_count > MOST_SLOTS:
            self.drop_slots()
        if self.slot_count > MOST_SLOTS or len(self.ends) > MOST_BLOCKS:
            return self.as_given()
        if any([len(steps) > MOST_STEPS for steps in self.step_lists]):
            return self.as_given()
        code = self.code_now()
        code_map = {block: (tuple(row[0]), copied_table(row[1])) for block, row in self.rows.items()}
        return (code, code_map) if is_code(code) and has_map_form(code, code_map) else self.as_given()

    def as_given(self):
        """The code and the map that were given."""
        return (self.code_given, {block: (row[0], copied_table(row[1])) for block, row in self.map_given.items()})

    def reached(self):
        """A dict that has the blocks as keys to which ways lead from block 0."""
        found, waiting = {0: True}, [0]
        while waiting:
            for block in targets(self.ends[waiting.pop()]):
                if block not in found:
                    found[block] = True
                    waiting.append(block)
        return found
