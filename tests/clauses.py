"""What [54] to [57] say of the results of passes, clause by clause, written out by the document's words."""

from heldover.codes import WAITING_WORDS
from heldover.graphs import Texts
from heldover.liveness import live_slots, needed_variables
from heldover.stories import strictly_equal
from heldover.ways import gives, reads


def targets(end):
    """The blocks that an end names."""
    word = end[0]
    if word in ("return", "raise", "become", "done"):
        return []
    if word == "branch":
        return list(end[2:])
    if word == "mark":
        return list(end[1:])
    if word == "call":
        return [end[4], *[block for _, block in end[5]]]
    return [end[1], end[2], *over(end)] if word == "both" else [end[-1]]


def over(end):
    """The blocks that an end names, but not the bodies of a both."""
    return [end[5], *[block for _, block in end[6]]] if end[0] == "both" else targets(end)


def reach(firsts, lead):
    """All to which one comes from these, by what leads from each."""
    found, waiting = set(firsts), list(firsts)
    while waiting:
        for block in lead(waiting.pop()):
            if block not in found:
                found.add(block)
                waiting.append(block)
    return found


def reachable(code):
    """The blocks on a way from block 0."""
    return reach([0], lambda block: targets(code[3][block][2]))


def regions(code):
    """The (both, body, blocks that stand in it)."""
    return [(at, number, reach([row[2][1 + number]], lambda block: over(code[3][block][2])))
            for at, row in enumerate(code[3]) if row[2][0] == "both" for number in range(2)]


def is_mere(operation):
    return operation[0] in ("slot", "value")


def operands(operation):
    if operation[0] in ("slot", "value"):
        return [operation]
    first = {"self": 1, "tag": 2, "is": 2, "part": 2}.get(operation[0], 1)
    return operation[first:]


def slots_of(operation):
    return {operand[1] for operand in operands(operation) if operand[0] == "slot"}


def loops(code):
    """The (head, blocks) of all loops [56]."""
    found = []
    for head, (place, _, end) in enumerate(code[3]):
        if not place or not isinstance(place[-1][1], tuple) or end[0] in WAITING_WORDS:
            continue

        def ahead(block, least=len(place)):
            rows = code[3]
            return [one for one in targets(rows[block][2]) if rows[one][0] is None or len(rows[one][0]) >= least]
        here = {head}
        for block in reach([head], ahead):
            if head in reach(ahead(block), ahead):
                here.add(block)
        found.append((head, here))
    return found


def constants_known(code):
    """For each block on a way from block 0 the slots that hold one and the same value on every way."""
    known, waiting = {0: {}}, [0]
    while waiting:
        block = waiting.pop()
        _, steps, end = code[3][block]
        held = dict(known[block])
        for slot, operation in steps:
            held.pop(slot, None)
            if operation[0] == "value":
                held[slot] = operation[1]
        left = {slot: value for slot, value in held.items() if slot not in gives(end)}
        for target in targets(end):
            failing = end[0] == "call" and target != end[4]
            inside = end[0] == "both" and target in end[1:3]
            new = held if failing or inside else left
            old = known.get(target)
            met = new if old is None else {slot: value for slot, value in old.items()
                                           if slot in new and strictly_equal(new[slot], value)}
            if old is None or len(met) < len(old):
                known[target] = met
                waiting.append(target)
    return known


def of_constants(code):
    for block, held in constants_known(code).items():
        _, steps, end = code[3][block]
        held = dict(held)
        for slot, operation in steps:
            if slots_of(operation) & set(held):
                yield ("a step reads a value", block)
            if not is_mere(operation) and operation[0] != "self" and all(one[0] == "value" for one in operands(operation)):
                yield ("an operation on values", block)
            held.pop(slot, None)
            if operation[0] == "value":
                held[slot] = operation[1]
        if set(reads(end)) & set(held):
            yield ("an end reads a value", block)
        if end[0] == "branch" and end[1][0] == "value":
            yield ("a branch on a value", block)


def of_copies(code):
    for block, (_, steps, end) in enumerate(code[3]):
        copies = {}
        for slot, operation in steps:
            if slots_of(operation) & set(copies):
                yield ("a step reads a copy", block)
            copies = {one: other for one, other in copies.items() if one != slot and other != ("slot", slot)}
            if is_mere(operation):
                copies[slot] = operation
        if set(reads(end)) & set(copies):
            yield ("an end reads a copy", block)


def of_equals(code):
    for block, (_, steps, _) in enumerate(code[3]):
        for first, (slot, operation) in enumerate(steps):
            for second in range(first + 1, len(steps)):
                if is_mere(operation) or not strictly_equal(operation, steps[second][1]):
                    continue
                given = {one for one, _ in steps[first:second]}
                if not given & slots_of(operation) and slot not in {one for one, _ in steps[first + 1:second]}:
                    yield ("computed twice", block, first, second)


def of_dead(version, function, code, rows):
    live, inside, reached = live_slots(code, rows), {}, reachable(code)
    for both, number, region in regions(code):
        for block in region:
            if code[3][block][2][0] in ("done", "raise", "call", "both"):
                inside.setdefault(block, set()).update(code[3][both][2][3 + number])
    for block, (place, steps, end) in enumerate(code[3]):
        behind = set(reads(end)) | inside.get(block, set())
        for target in targets(end):
            failing = end[0] == "call" and target != end[4] or end[0] == "both" and target in end[1:3]
            behind |= set(live[target]) - (set() if failing else set(gives(end)))
        for slot, operation in reversed(steps):
            if slot not in behind:
                yield ("a dead step", block)
            behind = behind - {slot} | slots_of(operation)
        if place is None:
            continue
        having = {slot for slot, meaning in enumerate(rows[block][0]) if meaning is not None}
        if not having <= set(live[block]) or block in reached and having != set(live[block]):
            yield ("meanings", block)
        if sorted(one for one, recipe in rows[block][1].items() if recipe is not None) != needed_variables(version, function, place):
            yield ("recipes", block)
    bodies = [region for _, _, region in regions(code)]
    for block in reached:
        if sum(block in region for region in [reach([0], lambda one: over(code[3][one][2])), *bodies]) > 1:
            yield ("stands in several bodies", block)


def of_hoist(code, rows):
    for head, loop in loops(code):
        given = {slot for block in loop for slot in [*[one for one, _ in code[3][block][1]], *gives(code[3][block][2])]}
        heads = [block for block in loop if code[3][block][0] is not None]
        for block in loop:
            for _, operation in code[3][block][1]:
                if is_mere(operation) or operation[0] in ("is", "part") or slots_of(operation) & given:
                    continue
                if all(rows[point][0][slot] is not None for slot in slots_of(operation) for point in heads):
                    yield ("could stand ahead of the loop", head, block)


def of_join(code, rows):
    if reachable(code) != set(range(len(code[3]))):
        yield "a block to which no way leads"
    texts = set()
    for block, (place, steps, end) in enumerate(code[3]):
        if end[0] == "branch" and end[2] == end[3]:
            yield ("a branch to one block", block)
        if place is None:
            if end[0] == "jump" and not steps:
                yield ("an empty jump", block)
            if repr((steps, end)) in texts:
                yield ("equal blocks", block)
            texts.add(repr((steps, end)))
    if set(rows) != {block for block, row in enumerate(code[3]) if row[0] is not None}:
        yield "rows"


def waiting_places(code, blocks):
    return sorted((code[3][block][0] for block in blocks if code[3][block][2][0] in WAITING_WORDS), key=repr)


def broken(one, version, function, before, after):
    """What is broken of a result of a pass, as a list."""
    code, rows = after
    found = list({
        "constants": lambda: of_constants(code), "copies": lambda: of_copies(code), "equals": lambda: of_equals(code),
        "dead": lambda: of_dead(version, function, code, rows), "hoist": lambda: of_hoist(code, rows),
        "join": lambda: of_join(code, rows),
    }.get(one, lambda: ())())
    if code[:2] != before[0][:2]:
        found.append("the function or its parameters")
    if isinstance(one, str):
        old = reachable(before[0]) if one == "join" else range(len(before[0][3]))
        if waiting_places(code, range(len(code[3]))) != waiting_places(before[0], old):
            found.append("waiting points")
    return found


def is_plain(version, function, code, label):
    """Whether ("unroll", label) is plain [58]."""
    texts = Texts(version)
    heads = [(head, loop) for head, loop in loops(code) if code[3][head][0][-1][0] == label]
    heads = [(head, loop) for head, loop in heads if len(texts.located(function, code[3][head][0])) == 1]
    if not heads:
        return True
    head, loop = heads[0]
    place = code[3][head][0]
    labels = [one for one, _ in place]
    for other, _, _ in code[3]:
        if other is not None and [one for one, _ in other[:len(labels)]] == labels and other[len(labels) - 1][1] == 0:
            return True
    while True:
        more = loop.union(*[region for both, _, region in regions(code) if both in loop])
        if more == loop:
            break
        loop = more
    under = [block for block, row in enumerate(code[3]) if row[0] is not None and row[0][:len(place)] == place]
    return len(heads) == 1 and all(block in loop for block in under)
