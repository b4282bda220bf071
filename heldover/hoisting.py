"""The pass "hoist": what a loop computes alike in each round is computed ahead of it."""

from heldover.codes import MOST_STEPS, WAITING_WORDS
from heldover.operations import is_mere_operand, slot_reads
from heldover.termforms import MAP_LEVELS, SLOT, levels_of, put_in
from heldover.ways import gives, targets


def is_loop_head(draft, block):
    """Whether a block is a point that is not waiting whose place ends with the round of a loop, in a slot."""
    place = draft.places[block]
    return bool(place) and isinstance(place[-1][1], tuple) and draft.ends[block][0] not in WAITING_WORDS


def reached_in(ways, first, allowed):
    """The blocks to which ways lead from a block, itself included, on which all blocks are allowed."""
    found, waiting = {first: True}, [first]
    while waiting:
        for block in ways[waiting.pop()]:
            if block not in found and allowed[block]:
                found[block] = True
                waiting.append(block)
    return found


def loop_of(draft, head):
    """The sorted list of the blocks of the loop of a head."""
    least = len(draft.places[head])
    allowed = [place is None or len(place) >= least for place in draft.places]
    ways = [targets(end) for end in draft.ends]
    back = [[] for _ in ways]
    for block, found in enumerate(ways):
        for target in found:
            back[target].append(block)
    ahead, behind = reached_in(ways, head, allowed), reached_in(back, head, allowed)
    return sorted([block for block in ahead if block in behind])


def given_in(draft, loop):
    """A dict that has the slots as keys that are given in a loop."""
    found = {}
    for block in loop:
        for slot in [*[slot for slot, _ in draft.step_lists[block]], *gives(draft.ends[block])]:
            found[slot] = True
    return found


def is_steady(draft, operation, given, points):
    """Whether an operation is computed alike in each round, and may stand ahead of the loop."""
    if is_mere_operand(operation) or operation[0] in ("is", "part"):
        return False
    for slot in slot_reads(operation):
        if slot in given or any([draft.rows[point][0][slot] is None for point in points]):
            return False
    return True


def meaning_of(operation, meanings):
    """What an operation means where its slots have these meanings."""
    return put_in(operation, {(SLOT, slot): meanings[slot] for slot in slot_reads(operation)})


def separate(draft, head, loop):
    """Gives the blocks outside of a loop copies of the blocks without a place in it to which they lead."""
    shared = {block: True for block in loop if block != head and draft.places[block] is None}
    table = {}
    waiting = [block for block in draft.blocks() if block not in loop]
    while waiting:
        block = waiting.pop()
        for target in targets(draft.ends[block]):
            if target in shared and target not in table:
                table[target] = draft.add_copy(target, None)
                waiting.append(table[target])
        draft.redirect(block, table)


def steady_steps(draft, loop, points):
    """The list of (block, position, operation) for the steps of a loop that may stand ahead of it."""
    given = given_in(draft, loop)
    found = []
    for block in loop:
        for at, (_, operation) in enumerate(draft.step_lists[block]):
            if is_steady(draft, operation, given, points):
                found.append((block, at, operation))
    return found


def hoist_from(draft, head):
    """Lets the steps of one loop stand ahead of it; returns whether the meanings keep to their levels."""
    loop = loop_of(draft, head)
    points = [block for block in loop if draft.places[block] is not None]
    steps = steady_steps(draft, loop, points)
    if not steps:
        return True
    separate(draft, head, loop)
    slots, ahead = {}, []
    for block, at, operation in steps:
        text = repr(operation)
        if text not in slots:
            slots[text] = draft.add_slot()
            ahead.append((slots[text], operation))
            for point in points:
                meanings = draft.rows[point][0]
                meanings[slots[text]] = meaning_of(operation, meanings)
        draft.step_lists[block][at] = (draft.step_lists[block][at][0], (SLOT, slots[text]))
    put_ahead(draft, head, loop, ahead)
    return all([levels_of(draft.rows[point][0][slot]) <= MAP_LEVELS for point in points for slot, _ in ahead])


def put_ahead(draft, head, loop, steps):
    """Puts steps into new blocks, through which all ways lead into a loop."""
    outside = [block for block in draft.blocks() if block not in loop]
    first = head
    while steps:
        first = draft.add_block(None, steps[-MOST_STEPS:], ("jump", first))
        steps = steps[:-MOST_STEPS]
    for block in outside:
        draft.redirect(block, {head: first})


def hoist(draft):
    """Goes through the loops from the outside to the inside; returns whether the result is a map still."""
    heads = [block for block in draft.blocks() if is_loop_head(draft, block)]
    fits = True
    for _, head in sorted([(len(draft.places[head]), head) for head in heads]):
        fits = hoist_from(draft, head) and fits
    return fits
