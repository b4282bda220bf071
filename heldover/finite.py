"""Kinds with few values, and these values in order."""

from heldover.effects import reached
from heldover.syntax import statements

MOST_VALUES = 40


def count_of(variants, table):
    """How many values variants have whose fields have these lists of values; None if a field has none."""
    total = 0
    for _, fields in variants:
        count = 1
        for field in fields:
            if table[field] is None:
                return None
            count *= len(table[field])
        total += count
    return total


def values_of_variants(variants, table):
    """The list of the values of variants, by variants, then by fields from left to right."""
    found = []
    for tag, fields in variants:
        rows = [(tag,)]
        for field in fields:
            rows = [(*row, value) for row in rows for value in table[field]]
        found.extend(rows)
    return found


def finite_table(kinds):
    """A dict from all kinds to the lists of their values, None for kinds that are not finite."""
    table = {"int": None, "bool": [False, True], "task": None}
    for name in kinds.names():
        variants = kinds.variants(name)
        count = count_of(variants, table)
        is_finite = count is not None and count <= MOST_VALUES
        table[name] = values_of_variants(variants, table) if is_finite else None
    return table


def kinds_met(version, name):
    """The kinds of the parameters, locals and result of a function, of the doors it asks and the keys it receives."""
    _, params, inner, result, body = version.function(name)
    found = [result, *[kind for _, kind in (*params, *inner)]]
    for _, statement in statements(body):
        if statement[0] == "ask":
            found.append(version.door(statement[3])[1])
        if statement[0] == "receive":
            found.append(version.key(statement[3]))
    return found


def called_from(version, function):
    """The functions that a function calls, also through others, itself included, in the order of the text."""
    leads = {}
    for name in version.names():
        body = version.function(name)[4]
        leads[name] = [statement[3] for _, statement in statements(body) if statement[0] == "call"]
    found = reached(function, leads)
    return [name for name in version.names() if name in found]


def infinite_function(version, function):
    """The first function, of one and those that it calls, that has a kind that is not finite, or None."""
    table = finite_table(version.kinds())
    for name in called_from(version, function):
        if any([table[kind] is None for kind in kinds_met(version, name)]):
            return name
    return None
