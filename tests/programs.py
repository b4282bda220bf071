"""Makes versions and stories by chance, always the same ones for the same seed."""

from random import Random

from heldover.versions import Version

COLOR = ("color", (("Red", ()), ("Mix", ("int", "task"))))
PAIR = ("pair", (("Two", ("color", "bool")),))
SIZE = ("size", (("Big", ()), ("Mid", ("bool",)), ("Low", ("int", "int", "int"))))
DOORS = (("price", ("int",), "int"), ("pick", (), "color"), ("flag", ("bool", "color"), "bool"), ("twin", (), "pair"),
         ("grade", ("size",), "size"))
KEYS = (("paid", "bool"), ("note", "color"), ("num", "int"), ("big", "size"))
FIELDS = {tag: fields for _, variants in (COLOR, PAIR, SIZE) for tag, fields in variants}
VARIANTS = {name: variants for name, variants in (COLOR, PAIR, SIZE)}
KINDS = ("int", "bool", "task", "color", "pair", "size")
ERRORS = ("dear", "late", "gone")


def random_value(chance, kind):
    if kind == "int":
        return chance.choice((0, 1, 2, 3, -1, -4, 7, 12))
    if kind == "bool":
        return chance.random() < 0.5
    if kind == "task":
        return chance.choice(("", "ann", "bob/0/a.0"))
    tag, fields = chance.choice(VARIANTS[kind])
    return (tag, *[random_value(chance, field) for field in fields])


class Writer:
    """Writes one function."""

    def __init__(self, chance, name, callable_functions, all_functions, becoming):
        self.chance, self.name, self.becoming = chance, name, becoming
        self.callable, self.all_functions = callable_functions, all_functions
        self.count = 0
        self.labels = 0

    def function(self, params, inner, result):
        self.kinds = dict(params + inner)
        self.result = result
        names = list(self.kinds)
        body = self.body(1, names, names, False, False, False)
        return (self.name, params, inner, result, body)

    def label(self):
        self.labels += 1
        return self.chance.choice(("", "l" + "abcdefghijklmnopqrstuvwxyz"[self.labels % 26] + "abcdefgh"[self.labels // 26]))

    def expression(self, kind, readable, levels=3):
        chance = self.chance
        names = [name for name in readable if self.kinds[name] == kind]
        if names and chance.random() < 0.5:
            return chance.choice(names)
        if kind == "task":
            return ("self",)
        if kind in VARIANTS:
            if levels < 3:
                tag, fields = VARIANTS[kind][0]
            else:
                tag, fields = chance.choice(VARIANTS[kind])
            return ("tag", tag, *[self.expression(field, readable, levels - 1) for field in fields])
        if levels == 1 or chance.random() < 0.4:
            return random_value(chance, kind)
        if kind == "int":
            word = chance.choice(("add", "sub", "mul", "div", "mod"))
            return (word, self.expression("int", readable, levels - 1), self.expression("int", readable, levels - 1))
        word = chance.choice(("less", "same", "and", "or", "not"))
        if word == "not":
            return ("not", self.expression("bool", readable, levels - 1))
        inner = "int" if word == "less" else "bool"
        if word == "same":
            inner = chance.choice(("int", "bool", "task", "color"))
        return (word, self.expression(inner, readable, levels - 1), self.expression(inner, readable, levels - 1))

    def body(self, depth, readable, writable, looped, sealed, paused):
        found = []
        for _ in range(self.chance.choice((0, 1, 2, 2, 3, 3, 4)) if depth > 1 else self.chance.randint(3, 7)):
            if self.count >= 36:
                break
            self.count += 1
            statement = self.statement(depth, readable, writable, looped, sealed, paused)
            if statement is None:
                continue
            found.append(statement)
            if statement[0] in ("break", "return", "raise", "become"):
                break
            paused = paused or statement[0] in ("ask", "receive", "sleep")
        return tuple(found)

    def arguments(self, kinds, readable):
        return tuple(self.expression(kind, readable) for kind in kinds)

    def statement(self, depth, readable, writable, looped, sealed, paused):
        words = ["set", "set", "ask", "ask", "send", "receive", "sleep", "start", "call", "raise", "call"]
        if depth < 5:
            words += ["if", "if", "match", "loop", "loop", "try", "both", "both", "since", "since"]
        if looped:
            words += ["break"]
        if not sealed:
            words += ["return"]
            if paused and self.becoming:
                words += ["become"]
        word = self.chance.choice(words)
        if word in ("raise", "return") and self.chance.random() < 0.5:
            word = "set"
        if word in ("set", "ask", "receive", "start", "call", "raise", "break", "return", "become", "send", "sleep"):
            return self.simple(word, readable, writable, paused)
        return self.nested(word, depth, readable, writable, looped, sealed, paused)

    def writable_of(self, kind, writable):
        names = [name for name in writable if self.kinds[name] == kind]
        return self.chance.choice(names) if names else None

    def simple(self, word, readable, writable, paused):
        chance = self.chance
        if word == "break":
            return ("break",)
        if word == "raise":
            return ("raise", chance.choice(ERRORS))
        if word == "return":
            return ("return", self.expression(self.result, readable))
        if word == "sleep":
            return ("sleep", self.label(), self.expression("int", readable))
        if word == "send":
            key, kind = chance.choice(KEYS)
            return ("send", self.label(), self.expression("task", readable), key, self.expression(kind, readable))
        if word == "become":
            name = chance.choice(list(self.all_functions))
            return ("become", name, self.arguments(self.all_functions[name][0], readable))
        if word == "set":
            if not writable:
                return None
            name = chance.choice(writable)
            return ("set", name, self.expression(self.kinds[name], readable))
        return self.answered(word, readable, writable, paused)

    def answered(self, word, readable, writable, paused):
        chance = self.chance
        if word == "ask":
            name, fields, kind = chance.choice(DOORS)
        elif word == "receive":
            name, kind = chance.choice(KEYS)
        elif word == "start":
            if not paused:
                return None
            name, kind = chance.choice(list(self.all_functions)), "task"
            fields = self.all_functions[name][0]
        else:
            if not self.callable:
                return None
            name = chance.choice(list(self.callable))
            fields, kind = self.callable[name]
        variable = self.writable_of(kind, writable)
        if variable is None:
            return None
        if word == "receive":
            return (word, self.label(), variable, name)
        return (word, self.label(), variable, name, self.arguments(fields, readable))

    def nested(self, word, depth, readable, writable, looped, sealed, paused):
        chance, inside = self.chance, (depth + 1, readable, writable)
        if word == "if":
            test = self.expression("bool", readable)
            return ("if", test, self.body(*inside, looped, sealed, paused), self.body(*inside, looped, sealed, paused))
        if word == "loop":
            label = self.label()
            return ("loop", label, chance.choice((1, 2, 3)), self.body(*inside, True, sealed, paused))
        if word == "since":
            label = self.label()
            return ("since", label, self.body(*inside, looped, sealed, paused), self.body(*inside, looped, sealed, paused))
        if word == "try":
            label = self.label()
            body = self.body(*inside, looped, sealed, paused)
            names = chance.sample(ERRORS, chance.choice((1, 1, 2, 3)))
            return ("try", label, body, tuple((name, self.body(*inside, looped, sealed, paused)) for name in names))
        if word == "match":
            kind = chance.choice(list(VARIANTS))
            test = self.expression(kind, readable)
            cases = []
            for tag, fields in VARIANTS[kind]:
                names = []
                for field in fields:
                    free = [name for name in writable if self.kinds[name] == field and name not in names]
                    if not free:
                        return None
                    names.append(chance.choice(free))
                cases.append((tag, tuple(names), self.body(*inside, looped, sealed, paused)))
            return ("match", test, tuple(cases))
        label = self.label()
        mixed = chance.sample(writable, len(writable))
        ours, theirs = mixed[:len(mixed) // 2], mixed[len(mixed) // 2:]
        one = self.body(depth + 1, [name for name in readable if name not in theirs], ours, False, True, paused)
        other = self.body(depth + 1, [name for name in readable if name not in ours], theirs, False, True, paused)
        return ("both", label, one, other)


def random_version(seed, functions=4):
    """A version of two modules."""
    chance = Random(seed)
    names = ["f" + "abcdefgh"[number] for number in range(functions)]
    heads = {}
    for name in names:
        params = tuple(("p" + "abc"[at], chance.choice(KINDS)) for at in range(chance.randint(0, 2)))
        kinds = ["int", "int", "int", "bool", "task", "color", chance.choice(KINDS), chance.choice(KINDS)]
        inner = tuple(("v" + "abcdefgh"[at], kind) for at, kind in enumerate(kinds))
        heads[name] = (params, inner, chance.choice(KINDS))
    signatures = {name: (tuple(kind for _, kind in head[0]), head[2]) for name, head in heads.items()}
    made, known = [], {}
    for number, name in enumerate(names):
        becoming = number == functions - 1
        writer = Writer(chance, name, dict(known), signatures, becoming)
        made.append(writer.function(*heads[name]))
        if not becoming:
            known[name] = signatures[name]
    half = functions // 2
    return Version([
        ("base", (), (COLOR, PAIR, SIZE), DOORS, KEYS, tuple(made[:half])),
        ("shop", ("base",), (), (), (), tuple(made[half:])),
    ])


def random_start(version, seed):
    """A start of the last function of a version."""
    chance = Random(seed)
    name = version.names()[-1]
    return (name, tuple(random_value(chance, kind) for kind in version.signature(name)[0]), chance.randint(0, 5))


def random_answer(version, chance, question, index, wrong=0.0):
    """An answer to a question; sometimes one that does not fit."""
    if question[0] == "ask":
        kind = version.door(question[1])[1]
        return random_value(chance, chance.choice(KINDS) if chance.random() < wrong else kind)
    if question[0] == "receive":
        kind = version.key(question[1])
        return (("", index), random_value(chance, chance.choice(KINDS) if chance.random() < wrong else kind))
    if question[0] == "start":
        return "ann/" + str(index[0])
    return True


def random_entry(version, chance, question, index, moment, wrong=0.0):
    """An entry for a question; sometimes one with another question, or an open ask."""
    if chance.random() < wrong:
        question = chance.choice((("sleep", 1), ("mark",), ("receive", "paid"), ("ask", "price", (1,))))
    if question[0] == "ask" and chance.random() < wrong:
        return (question, None, None)
    return (question, random_answer(version, chance, question, index, wrong), moment)
