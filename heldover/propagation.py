"""The passes "copies" and "equals": within each block, what is there already is not computed or copied once more."""

from heldover.drafts import operation_with, with_operands
from heldover.operations import is_mere_operand, slot_reads
from heldover.stories import strictly_equal


def without_slot(copies, slot):
    """A dict from slots to the operands that they are copies of, without those that a step changes with its slot."""
    return {one: source for one, source in copies.items() if one != slot and slot not in slot_reads(source)}


def propagate_copies(draft):
    """Reads what slots are copies of, in the place of these slots."""
    for block in draft.blocks():
        copies, steps = {}, []
        for slot, operation in draft.step_lists[block]:
            operation = operation_with(operation, copies)
            # A slot that gets what it holds stays as it is.
            if strictly_equal(operation, ("slot", slot)):
                continue
            copies = without_slot(copies, slot)
            if is_mere_operand(operation):
                copies[slot] = operation
            steps.append((slot, operation))
        draft.step_lists[block] = steps
        draft.ends[block] = with_operands(draft.ends[block], copies)


def slot_with(present, operation):
    """The slot that holds the value of the operation, None if there is none."""
    for slot, other in present:
        if strictly_equal(operation, other):
            return slot
    return None


def share_equals(draft):
    """Copies what an earlier step of the block has computed."""
    for block in draft.blocks():
        present, steps = [], []
        for slot, operation in draft.step_lists[block]:
            found = None if is_mere_operand(operation) else slot_with(present, operation)
            if found == slot:
                continue
            if found is not None:
                operation = ("slot", found)
            steps.append((slot, operation))
            present = [(one, other) for one, other in present if one != slot and slot not in slot_reads(other)]
            if not is_mere_operand(operation) and slot not in slot_reads(operation):
                present.append((slot, operation))
        draft.step_lists[block] = steps
