"""What the code and the map of a function rest on."""

from heldover.effects import LEADING_ITEMS
from heldover.expressions import tags_in
from heldover.syntax import expressions_of, statements

TALKING_WORDS = ("send", "receive")


def statements_of(function):
    """The list of all statements of a function."""
    body = function[4]
    return [statement for _, statement in statements(body)]


def errors_among(version, name):
    """The sorted tuple of the errors among the effects of a function."""
    return tuple([effect[1] for effect in version.effects(name) if effect[0] == "raise"])


def signatures_for(version, found):
    """The sorted tuple of the (name, kinds, result, errors) of the functions to which these statements lead."""
    leading = [statement for statement in found if statement[0] in LEADING_ITEMS]
    called = [statement[3] for statement in leading if statement[0] == "call"]
    rows = []
    for name in sorted(set([statement[LEADING_ITEMS[statement[0]]] for statement in leading])):
        errors = errors_among(version, name) if name in called else ()
        rows.append((name, *version.signature(name), errors))
    return tuple(rows)


def doors_for(version, found):
    """The sorted tuple of the doors that these statements name, as in the module."""
    names = sorted(set([statement[3] for statement in found if statement[0] == "ask"]))
    return tuple([(name, *version.door(name)) for name in names])


def keys_for(version, found):
    """The sorted tuple of the keys that these statements name, as in the module."""
    names = sorted(set([statement[3] for statement in found if statement[0] in TALKING_WORDS]))
    return tuple([(name, version.key(name)) for name in names])


def tags_of(found):
    """The tags that stand in these statements."""
    tags = [tag for statement in found for one in expressions_of(statement) for tag in tags_in(one)]
    return tags + [case[0] for statement in found if statement[0] == "match" for case in statement[2]]


def kinds_for(version, names, tags):
    """The sorted tuple of the declared kinds among these kinds and with these tags, and of those in their variants."""
    kinds = version.kinds()
    waiting = list(names)
    for name in kinds.names():
        if any([tag in tags for tag, _ in kinds.variants(name)]):
            waiting.append(name)
    found = {}
    while waiting:
        name = waiting.pop()
        if name in kinds and name not in found:
            found[name] = True
            waiting.extend([field for _, fields in kinds.variants(name) for field in fields])
    return tuple([(name, kinds.variants(name)) for name in sorted(found)])


def key_of_unit(version, names):
    """The key of the functions with these names, of which all but one are inlined."""
    texts = tuple([version.function(name) for name in sorted(set(names))])
    found = [statement for function in texts for statement in statements_of(function)]
    signatures, doors, keys = signatures_for(version, found), doors_for(version, found), keys_for(version, found)
    kinds = [function[3] for function in texts]
    kinds.extend([kind for function in texts for _, kind in (*function[1], *function[2])])
    kinds.extend([kind for _, params, result, _ in signatures for kind in (*params, result)])
    kinds.extend([kind for _, fields, result in doors for kind in (*fields, result)])
    kinds.extend([kind for _, kind in keys])
    return (texts, signatures, doors, keys, kinds_for(version, kinds, tags_of(found)))
