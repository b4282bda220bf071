"""Codes and maps with one thing changed."""

from heldover.codes import is_code
from heldover.frames import is_map

DATA = (0, 1, 2, True, False, "", "x", ("Red",), ("Mix", 1, ""))
WORDS = ("add", "sub", "mul", "div", "mod", "less", "same", "and", "or")
TAGS = ("Red", "Mix", "Two", "Big", "Mid", "Low")
NAMES = ("dear", "late", "gone", "price", "paid", "num", "fa", "fb", "flag")
KINDS = ("step", "step", "end", "end", "end", "place", "meaning", "recipe", "recipe", "lost step", "new step", "other end")


class Mutation:
    """Changes one thing of a code and a map by chance."""

    def __init__(self, chance, code, code_map):
        self.chance = chance
        self.head, self.slots = code[:3], code[2]
        self.blocks = [list(block) for block in code[3]]
        self.rows = {block: (list(meanings), dict(recipes)) for block, (meanings, recipes) in code_map.items()}

    def operand(self):
        if self.slots and self.chance.random() < 0.5:
            return ("slot", self.chance.randrange(self.slots))
        return ("value", self.chance.choice(DATA))

    def operation(self, operation):
        parts = list(operation)
        word = parts[0]
        if word in ("slot", "value", "self"):
            return self.operand()
        if self.chance.random() < 0.4 and word in (*WORDS, "is", "part"):
            if word in WORDS:
                parts[0] = self.chance.choice(WORDS)
            else:
                parts[1] = self.chance.choice(TAGS) if word == "is" else self.chance.randrange(3)
            return tuple(parts)
        first = 2 if word in ("tag", "is", "part") else 1
        if len(parts) > first:
            parts[self.chance.randrange(first, len(parts))] = self.operand()
        return tuple(parts)

    def end(self, end):
        if len(end) == 1:
            return ("return", self.operand())
        at = self.chance.randrange(1, len(end))
        return (*end[:at], self.item(end[0], at, end[at], at == len(end) - 1), *end[at + 1:])

    def item(self, word, at, item, last):
        chance = self.chance
        if isinstance(item, int) or item is None:
            is_slot = item is None or word in ("call", "ask", "receive", "start") and at == 1
            return chance.randrange(self.slots if is_slot and self.slots else len(self.blocks))
        if isinstance(item, str):
            return chance.choice(NAMES)
        if item and item[0] in ("slot", "value"):
            return self.operand()
        items = list(item)
        if word in ("both", "call") and last:
            if items and chance.random() < 0.5:
                items.pop(chance.randrange(len(items)))
            else:
                items.append((chance.choice(NAMES[:3]), chance.randrange(len(self.blocks))))
        elif word == "both":
            if items and chance.random() < 0.5:
                items.pop(chance.randrange(len(items)))
            else:
                items.append(chance.randrange(self.slots or 1))
        elif items:
            items[chance.randrange(len(items))] = self.operand()
        return tuple(items)

    def change(self, kind):
        chance, blocks = self.chance, self.blocks
        if kind in ("meaning", "recipe"):
            meanings, recipes = self.rows[chance.choice(sorted(self.rows))]
            if kind == "meaning" and meanings:
                meanings[chance.randrange(len(meanings))] = chance.choice([*meanings, ("value", 0), ("value", True)])
            if kind == "recipe" and recipes:
                recipes[chance.choice(sorted(recipes))] = chance.choice((self.operand(), None))
            return
        block = chance.choice(blocks)
        place, steps = block[0], list(block[1])
        if kind == "end":
            block[2] = self.end(block[2])
        elif kind == "other end":
            block[2] = chance.choice((("done",), ("return", ("value", 0)), ("raise", "dear"), ("jump", chance.randrange(len(blocks)))))
        elif kind == "place" and place:
            at = chance.randrange(len(place))
            part = chance.choice(((place[at][0], chance.randrange(5)), (place[at][0], ("slot", chance.randrange(self.slots or 1))), ("a", 0)))
            block[0] = (*place[:at], part, *place[at + 1:])
        elif kind == "new step" and self.slots:
            steps.insert(chance.randrange(len(steps) + 1), (chance.randrange(self.slots), self.operand()))
        elif kind == "lost step" and steps:
            steps.pop(chance.randrange(len(steps)))
        elif kind == "step" and steps:
            at = chance.randrange(len(steps))
            slot, operation = steps[at]
            steps[at] = (chance.randrange(self.slots), operation) if chance.random() < 0.3 else (slot, self.operation(operation))
        block[1] = tuple(steps)

    def made(self):
        code = (*self.head, tuple(tuple(block) for block in self.blocks))
        return code, {block: (tuple(meanings), recipes) for block, (meanings, recipes) in self.rows.items()}


def mutated(chance, code, code_map):
    """A code and a map with one thing changed, and what it was; None if they are none by the form, or the same."""
    mutation = Mutation(chance, code, code_map)
    kind = chance.choice(KINDS)
    mutation.change(kind)
    changed, rows = mutation.made()
    if not is_code(changed) or not is_map(changed, rows) or repr((changed, rows)) == repr((code, code_map)):
        return None
    return changed, rows, kind
