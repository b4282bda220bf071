"""What functions do: their effects, where they lead, and what is endless."""

from heldover.syntax import bodies_of, statements

EFFECT_ITEMS = {"ask": 3, "send": 3, "receive": 3, "start": 3, "become": 1}
LEADING_ITEMS = {"call": 3, "start": 3, "become": 1}
PAUSES = ("ask", "receive", "sleep")


def own_effect(statement):
    """The effect of a statement by itself, None if it has none; raises and calls are looked at elsewhere."""
    word = statement[0]
    if word == "sleep":
        return ("sleep",)
    return (word, statement[EFFECT_ITEMS[word]]) if word in EFFECT_ITEMS else None


def errors_out(body, caught, known):
    """The errors, some perhaps several times, that get out of a body; caught are those that are handled around it."""
    found = []
    for statement in body:
        word = statement[0]
        if word == "raise":
            found.append(statement[1])
        if word == "call":
            found.extend([effect[1] for effect in known[statement[3]] if effect[0] == "raise"])
        if word == "try":
            handled = [error for error, _ in statement[3]]
            found.extend(errors_out(statement[2], handled, known))
            for _, handler in statement[3]:
                found.extend(errors_out(handler, (), known))
        else:
            for inner in bodies_of(statement):
                found.extend(errors_out(inner, (), known))
    return [error for error in found if error not in caught]


def errors_of_body(body, known):
    """The sorted list of the errors that get out of a body; known has the effects of the functions it calls."""
    return sorted(set(errors_out(body, (), known)))


def effects_of(body, known):
    """The effects of a function with this body; known has those of the functions that it calls."""
    found = [("raise", error) for error in errors_of_body(body, known)]
    for _, statement in statements(body):
        effect = own_effect(statement)
        if effect is not None:
            found.append(effect)
        if statement[0] == "call":
            found.extend([one for one in known[statement[3]] if one[0] != "raise"])
    return sorted(set(found))


def leads_of(body):
    """The functions to which the calls, starts and becomes of a body lead."""
    found = [statement for _, statement in statements(body) if statement[0] in LEADING_ITEMS]
    return [statement[LEADING_ITEMS[statement[0]]] for statement in found]


def reached(name, leads):
    """The functions that are reached from one, itself included; leads has where each one leads."""
    found = {name: True}
    waiting = [name]
    while waiting:
        last = waiting.pop()
        for other in leads.get(last, ()):
            if other not in found:
                found[other] = True
                waiting.append(other)
    return list(found)


def unpaused(body, paused):
    """The starts and becomes of a body, as tuples (statement, whether a pause stands before it or around it)."""
    found = []
    for statement in body:
        if statement[0] in ("start", "become"):
            found.append((statement, paused))
        for inner in bodies_of(statement):
            found.extend(unpaused(inner, paused))
        paused = paused or statement[0] in PAUSES
    return found


def is_endless(statement, paused, function, leads):
    """Whether a start or become leads back to its function without a pause before it."""
    if paused:
        return False
    return statement[0] == "become" or function in reached(statement[LEADING_ITEMS[statement[0]]], leads)
