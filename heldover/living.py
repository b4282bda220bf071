"""Which slots are live in a code; sets of slots are kept as integers, with a bit for each slot."""

from heldover.operations import slot_reads
from heldover.termforms import SLOT, unknowns_in
from heldover.transfers import region_of
from heldover.ways import error_blocks, gives, inner_targets, next_blocks, reads

BODY_READERS = ("done", "raise", "call", "both")


def mask_of(numbers):
    """The integer that stands for a set of numbers."""
    mask = 0
    for number in numbers:
        mask = mask | 1 << number
    return mask


def numbers_of(mask):
    """The ascending list of the numbers of a set."""
    return [number for number in range(mask.bit_length()) if mask >> number & 1]


def body_regions(code):
    """The list of (block of a both, number of a body, blocks that stand in this body)."""
    over = [inner_targets(block[2]) for block in code[3]]
    found = []
    for block, row in enumerate(code[3]):
        if row[2][0] == "both":
            found.extend([(block, number, region_of(over, row[2][1 + number])) for number in range(2)])
    return found


def reads_at_ends(code):
    """For each block what its end reads, also of the slots that are taken over from the bodies in which it stands."""
    found = [mask_of(reads(block[2])) for block in code[3]]
    for both, number, region in body_regions(code):
        taken = mask_of(code[3][both][2][3 + number])
        for block in region:
            if code[3][block][2][0] in BODY_READERS:
                found[block] = found[block] | taken
    return found


def recipe_slots(recipes):
    """The set of the slots that recipes read."""
    found = [unknown for recipe in recipes.values() if recipe is not None for unknown in unknowns_in(recipe)]
    return mask_of([unknown[1] for unknown in found if unknown[0] == SLOT])


def place_slots(place):
    """The set of the slots in a place."""
    return mask_of([number[1] for _, number in place or () if isinstance(number, tuple)])


def live_behind(end, live):
    """The slots that are live on the ways that lead from an end, before it gives what it gives."""
    given = ~mask_of(gives(end))
    behind, failing, inside = 0, 0, 0
    for block in next_blocks(end):
        behind = behind | live[block]
    for block in error_blocks(end):
        failing = failing | live[block]
    if end[0] == "both":
        inside = live[end[1]] | live[end[2]]
        failing = failing & given
    return behind & given | failing | inside


def live_masks(code, recipes):
    """For each block the set of the slots that are live there; recipes has those of each point."""
    end_reads = reads_at_ends(code)
    firsts = [place_slots(block[0]) for block in code[3]]
    for block in recipes:
        firsts[block] = firsts[block] | recipe_slots(recipes[block])
    live = [0] * len(code[3])
    blocks = list(range(len(code[3])))
    changed = True
    while changed:
        changed = False
        for block in reversed(blocks):
            _, steps, end = code[3][block]
            mask = end_reads[block] | live_behind(end, live)
            for slot, operation in reversed(steps):
                mask = mask & ~(1 << slot) | mask_of(slot_reads(operation))
            mask = mask | firsts[block]
            if mask != live[block]:
                live[block] = mask
                changed = True
    return live
