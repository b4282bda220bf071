"""How values flow in a code; sets of slots are kept as integers, with a bit for each slot."""

from heldover.codes import WAITING_WORDS
from heldover.living import BODY_READERS, body_regions, mask_of, numbers_of, place_slots
from heldover.operations import slot_reads
from heldover.ways import error_blocks, gives, inner_targets, next_blocks, reads


class Flowing:
    """The ways of a code, and what flows on them."""

    def __init__(self, code):
        self.rows = code[3]
        self.whole = mask_of(list(range(code[2])))
        self.regions = body_regions(code)
        self.step_masks = [
            [(slot, mask_of(slot_reads(operation))) for slot, operation in steps] for _, steps, _ in self.rows
        ]
        self.counting = [self.counted(block) for block in range(len(self.rows))]
        self.leading = [self.ways_of(block, False) for block in range(len(self.rows))]

    def counted(self, block):
        """The slots that count at the end of a block."""
        place, _, end = self.rows[block]
        return mask_of(reads(end)) | (place_slots(place) if end[0] in WAITING_WORDS else 0)

    def counted_inside(self, block):
        """The slots that count at a block that a branch has entered."""
        place, _, end = self.rows[block]
        return place_slots(place) if end[0] == "call" else 0

    def ways_of(self, block, entered):
        """The list of the ways (block, slots that are set) of a block, perhaps of one that a branch has entered."""
        end = self.rows[block][2]
        given = mask_of(gives(end))
        if end[0] == "both":
            found = [] if entered else [(end[1], 0), (end[2], 0)]
            found.extend([(target, given) for target in inner_targets(end)])
        else:
            found = [(target, given) for target in next_blocks(end)]
            found.extend([(target, 0) for target in error_blocks(end)])
        if end[0] in BODY_READERS:
            found.extend(self.ways_out(block, given if end[0] == "both" else 0))
        return found

    def ways_out(self, block, given):
        """The ways out of all bodies in which a block stands; some slots are set on all of them."""
        found, seen = [], {}
        waiting = [(block, given)]
        while waiting:
            block, given = waiting.pop()
            for both, number, region in self.regions:
                end = self.rows[both][2]
                lost = given | self.whole & ~mask_of(end[3 + number])
                if block in region and (both, lost) not in seen:
                    seen[both, lost] = True
                    found.extend([(target, lost) for target in inner_targets(end)])
                    waiting.append((both, lost))
        return found

    def before_steps(self, block, mask):
        """The slots at a block that reach one of these behind its steps."""
        for slot, read in reversed(self.step_masks[block]):
            if mask >> slot & 1:
                mask = mask & ~(1 << slot) | read
        return mask

    def behind_steps(self, block, slot):
        """The slots that the value in a slot at a block reaches behind its steps."""
        mask = 1 << slot
        for given, read in self.step_masks[block]:
            mask = mask | 1 << given if mask & read else mask & ~(1 << given)
        return mask

    def flowing_into(self, ways, masks):
        """The slots, behind the steps of a block with these ways, that flow to one of those of the blocks."""
        found = 0
        for target, lost in ways:
            found = found | masks[target] & ~lost
        return found

    def counts(self, block, slot):
        """Whether the value in a slot at a block counts."""
        return self.behind_steps(block, slot) & self.counting[block] != 0

    def flows_from(self, block, slot):
        """The sorted list of the pairs (block, slot) to which the value in a slot at a block flows."""
        mask = self.behind_steps(block, slot)
        found = [(target, further) for target, lost in self.leading[block] for further in numbers_of(mask & ~lost)]
        return sorted(set(found))

    def needed(self):
        """For each block the slots that are needed there."""
        masks = [0] * len(self.rows)
        blocks = list(range(len(self.rows)))
        changed = True
        while changed:
            changed = False
            for block in reversed(blocks):
                mask = self.counting[block] | self.flowing_into(self.leading[block], masks)
                mask = self.before_steps(block, mask)
                if mask != masks[block]:
                    masks[block] = mask
                    changed = True
        return masks

    def needed_inside(self, block, masks):
        """The slots that are needed at a block that a branch has entered; masks has those that blocks need."""
        return self.counted_inside(block) | self.flowing_into(self.ways_of(block, True), masks)

    def by_distance(self):
        """The slots of each block whose shortest flows have one pair, two pairs, and so on."""
        blocks = list(range(len(self.rows)))
        last = [self.before_steps(block, self.counting[block]) for block in blocks]
        known, found = last, []
        while any(last):
            found.append(last)
            flowing = [self.flowing_into(self.leading[block], last) for block in blocks]
            last = [self.before_steps(block, flowing[block]) & ~known[block] for block in blocks]
            known = [mask | further for mask, further in zip(known, last)]
        return found
