"""The pass ("unroll", label): the first round of a loop gets blocks of its own."""

from heldover.graphs import Texts
from heldover.hoisting import is_loop_head, loop_of, separate
from heldover.transfers import region_of
from heldover.ways import inner_targets


def heads_of(draft, label, version):
    """The heads of the loop with this label, in no inlined function."""
    texts, found = Texts(version), []
    for block in draft.blocks():
        if is_loop_head(draft, block) and draft.places[block][-1][0] == label:
            layers = texts.located(draft.owner, draft.places[block])
            if layers is not None and len(layers) == 1:
                found.append(block)
    return found


def has_first_round(draft, head):
    """Whether a place has the number 0 for the round of this loop already, whatever the rounds of loops around."""
    labels = [label for label, _ in draft.places[head]]
    for place in draft.places:
        if place is not None and [label for label, _ in place[:len(labels)]] == labels:
            if place[len(labels) - 1][1] == 0:
                return True
    return False


def blocks_to_copy(draft, head):
    """The blocks of the loop of a head, of the bodies of boths in it, and those behind these."""
    over = [inner_targets(end) for end in draft.ends]
    found = {block: True for block in loop_of(draft, head)}
    waiting = list(found)
    while waiting:
        end = draft.ends[waiting.pop()]
        if end[0] != "both":
            continue
        further = [end[5], *region_of(over, end[1]), *region_of(over, end[2])]
        for block in further:
            if block not in found:
                found[block] = True
                waiting.append(block)
    return sorted(found)


def first_round(place, at):
    """A place with the number 0 for the round at a position in it."""
    if place is None:
        return None
    return (*place[:at], (place[at][0], 0), *place[at + 1:])


def unroll(draft, label, version):
    """Copies the first round of the loop with this label."""
    heads = heads_of(draft, label, version)
    if not heads or has_first_round(draft, heads[0]):
        return
    head = heads[0]
    at = len(draft.places[head]) - 1
    loop = loop_of(draft, head)
    separate(draft, head, loop)
    copied = blocks_to_copy(draft, head)
    outside = [block for block in draft.blocks() if block not in loop]
    table = {block: draft.add_copy(block, first_round(draft.places[block], at)) for block in copied}
    inner = {block: table[block] for block in copied if block != head}
    for block in copied:
        draft.redirect(table[block], inner)
    for block in outside:
        draft.redirect(block, {head: table[head]})
