"""Machines that live by chance, always the same ones for the same seed."""

from random import Random

from tests.programs import random_value, random_version

NAMES = ("ann", "bob", "eve", "dan", "zoe", "kim", "lea", "max")


def random_operation(machine, chance, versions):
    """An operation that can be performed now, and the version for it."""
    kinds = ["wait", "rest", "answer", "answer", "do", "do", "do"]
    taken = [*machine.names(), *machine.names(living=False)]
    free = [name for name in NAMES if name not in taken]
    if free and len(machine) < 9:
        kinds += ["launch", "launch"]
    if len(machine.versions()) < min(5, len(versions)):
        kinds.append("version")
    kinds.append("move")
    word = chance.choice(kinds)
    if word == "launch":
        version = machine.versions()[machine.current]
        function = chance.choice(version.names())
        args = tuple(random_value(chance, kind) for kind in version.signature(function)[0])
        return ("launch", free[0], function, args), None
    if word == "answer" and machine.asks():
        name, index, door, _ = chance.choice(machine.asks())
        version = machine.versions()[machine.task(name).version]
        return ("answer", name, index, random_value(chance, version.door(door)[1])), None
    if word == "do" and machine.ready() and len(machine) < 11:
        return ("do", *chance.choice(machine.ready())), None
    if word == "rest" and len(machine) < 9:
        return ("rest", chance.choice((0, 1, 2))), None
    if word == "version":
        return ("version",), versions[len(machine.versions())]
    if word == "move":
        return ("move", machine.names()[:chance.choice((0, 1, 2))], machine.current), None
    return ("wait", chance.choice((0, 1, 3))), None


def random_life(seed):
    """A list of versions and the chance for a life with them."""
    version = random_version(seed)
    return [version, version, version], Random(seed)
