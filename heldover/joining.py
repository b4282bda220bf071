"""The pass "join": blocks that are equal, empty or never come to are left out."""

from heldover.drafts import with_blocks


def is_empty_jump(draft, block):
    """Whether a block has no place and only jumps."""
    return draft.places[block] is None and not draft.step_lists[block] and draft.ends[block][0] == "jump"


def skip_empty(draft):
    """Leads past the blocks that only jump; returns whether something has changed."""
    table = {}
    for block in draft.blocks():
        target, seen = block, {}
        while is_empty_jump(draft, target) and target not in seen:
            seen[target] = True
            target = draft.ends[target][1]
        if target != block:
            table[block] = target
    return redirect_all(draft, table)


def redirect_all(draft, table):
    """Lets all blocks lead to others; returns whether something has changed."""
    before = list(draft.ends)
    for block in draft.blocks():
        draft.redirect(block, table)
    return before != draft.ends


def straighten(draft):
    """Lets branches to one block jump; returns whether something has changed."""
    changed = False
    for block in draft.blocks():
        end = draft.ends[block]
        if end[0] == "branch" and end[2] == end[3]:
            draft.ends[block] = ("jump", end[2])
            changed = True
    return changed


def merge_equal(draft):
    """Leads to the first one of equal blocks without a place; returns whether something has changed."""
    firsts, table = {}, {}
    for block in sorted(draft.reached()):
        if draft.places[block] is None:
            text = repr((draft.step_lists[block], draft.ends[block]))
            first = firsts.setdefault(text, block)
            if first != block:
                table[block] = first
    return redirect_all(draft, table)


def drop_unreached(draft):
    """Leaves out the blocks to which no way leads from block 0."""
    kept = sorted(draft.reached())
    table = {block: number for number, block in enumerate(kept)}
    draft.places = [draft.places[block] for block in kept]
    draft.step_lists = [draft.step_lists[block] for block in kept]
    draft.ends = [with_blocks(draft.ends[block], table) for block in kept]
    draft.rows = {table[block]: row for block, row in draft.rows.items() if block in table}


def join_blocks(draft):
    """Joins blocks as long as something changes."""
    changed = True
    while changed:
        changed = skip_empty(draft)
        changed = straighten(draft) or changed
        changed = merge_equal(draft) or changed
    drop_unreached(draft)
