"""The pass "dead": steps, meanings and recipes that nothing depends on are left out."""

from heldover.graphs import Texts
from heldover.living import body_regions, live_behind, live_masks, mask_of, reads_at_ends
from heldover.needs import needed_at
from heldover.operations import slot_reads
from heldover.transfers import region_of
from heldover.ways import inner_targets


def part_bodies(draft):
    """Doubles the blocks without a place that stand in several bodies, or in a body and outside."""
    code = draft.code_now()
    over = [inner_targets(end) for end in draft.ends]
    owned = {}
    for both, number, region in [(None, 0, region_of(over, 0)), *body_regions(code)]:
        table = {}
        for block in sorted(region):
            if block in owned and draft.places[block] is None:
                table[block] = draft.add_copy(block, None)
            owned[block] = True
        if not table:
            continue
        for block in sorted(region):
            redirect_over(draft, table.get(block, block), table)
        if both is not None:
            end = list(draft.ends[both])
            end[1 + number] = table.get(end[1 + number], end[1 + number])
            draft.ends[both] = tuple(end)


def redirect_over(draft, block, table):
    """Lets a block lead to other blocks, but not into the bodies of a both."""
    before = draft.ends[block]
    draft.redirect(block, table)
    if before[0] == "both":
        draft.ends[block] = (*before[:3], *draft.ends[block][3:])


def trim_recipes(draft, version):
    """Keeps the recipes of variables that are needed."""
    texts, known = Texts(version), {}
    for block in sorted(draft.rows):
        layers = texts.located(draft.owner, draft.places[block])
        wanted = {variable: True for variable in needed_at(layers or (), known)}
        meanings, recipes = draft.rows[block]
        draft.rows[block] = (meanings, {one: term for one, term in recipes.items() if one in wanted})


def live_steps(steps, mask):
    """The steps whose slots are live behind them; mask has what is live behind all of them."""
    found = []
    for slot, operation in reversed(steps):
        if mask >> slot & 1:
            found.append((slot, operation))
            mask = mask & ~(1 << slot) | mask_of(slot_reads(operation))
    return list(reversed(found))


def trim_steps(draft):
    """Leaves out steps until the slot of each one is live behind it; returns what is live at each block."""
    recipes = {block: row[1] for block, row in draft.rows.items()}
    while True:
        code = draft.code_now()
        live, end_reads = live_masks(code, recipes), reads_at_ends(code)
        changed = False
        for block in draft.blocks():
            steps = live_steps(draft.step_lists[block], end_reads[block] | live_behind(draft.ends[block], live))
            changed = changed or len(steps) < len(draft.step_lists[block])
            draft.step_lists[block] = steps
        if not changed:
            return live


def trim(draft, version):
    """Leaves out what nothing depends on."""
    part_bodies(draft)
    trim_recipes(draft, version)
    live = trim_steps(draft)
    for block, (meanings, recipes) in list(draft.rows.items()):
        kept = [meaning if live[block] >> slot & 1 else None for slot, meaning in enumerate(meanings)]
        draft.rows[block] = (kept, recipes)
