"""Populations of tasks that talk with each other, always the same ones for the same seed."""

from random import Random

from heldover.runs import Run
from heldover.versions import Version

KINDS = ("int", "bool")
KEYS = ("ka", "kb", "kc", "kd")
VALUES = {"int": 7, "bool": True}
VARIABLES = (("x", "int"), ("ok", "bool"), ("t", "task"))
NAMES = ("ann", "bob", "dan", "eve", "kim", "zoe")


def talking_statement(word, label, key, kind):
    variable = {"int": "x", "bool": "ok"}[kind]
    return ("send", label, "t", key, variable) if word == "send" else ("receive", label, variable, key)


def talking_function(chance, name, kinds, plan):
    """A function that sleeps, and then does some sends and receives."""
    body = [("sleep", "s", 1)]
    for number, (word, key) in enumerate(plan):
        if key in kinds:
            body.append(talking_statement(word, "l" + "abcdef"[number], key, kinds[key]))
    if chance.random() < 0.1:
        body = [("sleep", "s", 2), *body[1:]]
    return (name, (), VARIABLES, "int", tuple(body))


def talking_version(chance, plans, kinds):
    keys = tuple((key, kinds[key]) for key in sorted(kinds))
    functions = tuple(talking_function(chance, name, kinds, plan) for name, plan in sorted(plans.items()) if chance.random() < 0.9)
    return Version([("shop", (), (), (), keys, functions or (("other", (), (), "int", ()),))])


def random_kinds(chance):
    return {key: chance.choice(KINDS) for key in KEYS if chance.random() < 0.9}


def line_of_talkers(seed):
    """Each task talks with the next one, under another key, in an order by chance."""
    chance = Random(seed)
    letters, names = list("abcde"), list(NAMES[:5])
    chance.shuffle(names)
    plans = {}
    for number, letter in enumerate(letters):
        plans["f" + letter] = [("send", "k" + letters[number])] if number < 4 else []
        if number:
            plans["f" + letter].append(("receive", "k" + letters[number - 1]))
    old = talking_version(Random(0), plans, {key: "int" for key in KEYS})
    new = talking_version(Random(0), plans, {key: chance.choice(("bool", "bool", "bool", "int")) for key in KEYS})
    population = {name: (old, (name, 0, ("f" + letter, (), 0), {})) for name, letter in zip(names, letters) if "f" + letter in old}
    asked = [name for name in population if chance.random() < 0.85]
    return population, [], new, asked


def random_population(seed):
    """(population, unread, new version, asked names)."""
    chance = Random(seed)
    plans = {"f" + letter: [(chance.choice(("send", "receive")), chance.choice(KEYS)) for _ in range(chance.choice((1, 1, 2, 2, 2)))]
             for letter in "abcdef"}
    old = [talking_version(chance, plans, random_kinds(chance)) for _ in range(2)]
    new = talking_version(chance, plans, random_kinds(chance))
    population = {}
    for name in NAMES[:chance.randint(1, 6)]:
        version = chance.choice(old)
        start = (chance.choice(version.names()), (), 0)
        story = {(0, ("s", 0)): (("sleep", 1), True, 0)} if chance.random() < 0.3 else {}
        run = Run(version, name, 0, start, story)
        if run.end() is None and run.state == "closed":
            population[name] = (version, (name, 0, start, story))
    unread = []
    for number in range(chance.choice((0, 1, 2, 3))):
        if population:
            unread.append((("max", (0, ("m", number))), chance.choice(sorted(population)), chance.choice(KEYS), VALUES[chance.choice(KINDS)]))
    names = [name for name in sorted(population) if chance.random() < 0.85]
    chance.shuffle(names)
    return population, unread, new, names
