"""The pass "constants": what is known to be a value is put in as this value."""

from heldover.drafts import operation_with, with_operands
from heldover.operations import head_of, inner_of, is_mere_operand, operated
from heldover.stories import strictly_equal
from heldover.termforms import ROUND, SLOT, put_in, unknowns_in
from heldover.values import is_integer
from heldover.ways import error_blocks, gives, next_blocks

# No integer is computed that has more bits.
MOST_BITS = 10000


def met(known, other):
    """What two states have in common.

    A state is a dict from slots to the operands for their values, None if nothing has come there yet.
    """
    if known is None:
        return dict(other)
    return {slot: value for slot, value in known.items() if slot in other and strictly_equal(value, other[slot])}


def behind_steps(steps, known):
    """The state behind steps."""
    known = dict(known)
    for slot, operation in steps:
        if operation[0] == "value":
            known[slot] = operation
        elif slot in known:
            del known[slot]
    return known


def states_behind(end, known):
    """A list of (block, state) for the ways that lead from an end."""
    given = {slot: value for slot, value in known.items() if slot not in gives(end)}
    found = [(block, given) for block in next_blocks(end)]
    found.extend([(block, given if end[0] == "both" else known) for block in error_blocks(end)])
    if end[0] == "both":
        found.extend([(block, known) for block in end[1:3]])
    return found


def states_of(draft):
    """The state at the beginning of each block; None for those to which no way leads from block 0."""
    states = [None for _ in draft.blocks()]
    states[0] = {}
    waiting = [0]
    while waiting:
        block = waiting.pop()
        known = behind_steps(draft.step_lists[block], states[block])
        for target, state in states_behind(draft.ends[block], known):
            found = met(states[target], state)
            if states[target] is None or len(found) < len(states[target]):
                states[target] = found
                waiting.append(target)
    return states


def folded(operation):
    """The value of an operation on values only, as an operand; the operation itself, if it is none."""
    if is_mere_operand(operation) or operation[0] == "self":
        return operation
    if any([operand[0] != "value" for operand in inner_of(operation)]):
        return operation
    values = [operand[1] for operand in inner_of(operation)]
    if sum([value.bit_length() for value in values if is_integer(value)]) > MOST_BITS:
        return operation
    value = operated(head_of(operation), values)
    return operation if value is None else ("value", value)


def folded_steps(steps, known):
    """Steps with the values that are known put in, and the state behind them."""
    found, known = [], dict(known)
    for slot, operation in steps:
        operation = folded(operation_with(operation, known))
        found.append((slot, operation))
        if operation[0] == "value":
            known[slot] = operation
        elif slot in known:
            del known[slot]
    return found, known


def folded_end(end, known):
    """An end with the values that are known put in."""
    end = with_operands(end, known)
    if end[0] == "branch" and end[1][0] == "value" and isinstance(end[1][1], bool):
        return ("jump", end[2] if end[1][1] else end[3])
    return end


def fold_once(draft):
    """Puts in the values that are known; returns whether something has changed."""
    changed = False
    states = states_of(draft)
    for block in draft.blocks():
        if states[block] is None:
            continue
        steps, known = folded_steps(draft.step_lists[block], states[block])
        end = folded_end(draft.ends[block], known)
        if not strictly_equal((tuple(steps), end), (tuple(draft.step_lists[block]), draft.ends[block])):
            changed = True
        draft.step_lists[block], draft.ends[block] = steps, end
        if block in draft.rows:
            fold_row(draft.rows[block], states[block])
    return changed


def fold_row(row, known):
    """Puts the values that are known into meanings and recipes."""
    meanings, recipes = row
    for slot, operand in known.items():
        # What a variable holds is told by its recipe; the round of a loop has none.
        if meanings[slot] is not None and any([unknown[0] == ROUND for unknown in unknowns_in(meanings[slot])]):
            meanings[slot] = operand
    table = {(SLOT, slot): operand for slot, operand in known.items()}
    for variable in list(recipes):
        if recipes[variable] is not None:
            recipes[variable] = folded_term(put_in(recipes[variable], table))


def folded_term(term):
    """A recipe, as a value if it is an operation on values only."""
    return folded(term) if term[0] != SLOT and all([part[0] == "value" for part in inner_of(term) or ()]) else term


def fold(draft):
    """Puts in values as long as something changes."""
    while fold_once(draft):
        pass
