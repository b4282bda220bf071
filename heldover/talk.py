"""What tasks may still send and receive."""

from heldover.effects import LEADING_ITEMS
from heldover.errors import UnknownName
from heldover.runs import Run
from heldover.syntax import bodies_of, label_of, statements

TALKING_WORDS = ("send", "receive")


def all_in(body):
    """The list of the statements of a body, with those in their bodies."""
    return [statement for _, statement in statements(body)]


def behind_label(body, label):
    """The statements of the rest of the statement with a label; None if it does not stand in the body."""
    for place, statement in enumerate(body):
        if label_of(statement) == label:
            return all_in(body[place + 1:])
        for number, inner in enumerate(bodies_of(statement)):
            found = behind_label(inner, label)
            if found is None:
                continue
            if statement[0] == "loop":
                found.extend(all_in(inner))
            if statement[0] == "try" and number == 0:
                found.extend([one for _, handler in statement[3] for one in all_in(handler)])
            return [*found, *all_in(body[place + 1:])]
    return None


def rest_of(version, function, label):
    """The statements of the rest of a labelled statement of a function."""
    body = version.function(function)[4]
    found = behind_label(body, label) if isinstance(label, str) else None
    if found is None:
        raise UnknownName(label)
    return found


def rest(version, function, label):
    """The sorted list of the (function, label) of the labelled statements in the rest of a labelled statement."""
    labels = [label_of(statement) for statement in rest_of(version, function, label)]
    return sorted(set([(function, one) for one in labels if one is not None]))


def statement_at(version, function, label):
    """The statement of a function with this label."""
    body = version.function(function)[4]
    return [statement for statement in all_in(body) if label_of(statement) == label][0]


def talking(version, found):
    """The sorted list of the sends and receives in (function, statement), also where these lead."""
    told, entered = {}, {}
    waiting = list(found)
    while waiting:
        function, statement = waiting.pop()
        word = statement[0]
        if word in TALKING_WORDS:
            told[word, statement[3], function, statement[1]] = True
        if word in LEADING_ITEMS:
            callee = statement[LEADING_ITEMS[word]]
            if callee not in entered:
                entered[callee] = True
                waiting.extend([(callee, one) for one in all_in(version.function(callee)[4])])
    return sorted(told)


def may_still(version, task):
    """The sorted list of the sends and receives (word, key, function, label) that a task may still do in a version."""
    name, epoch, start, story = task
    run = Run(version, name, epoch, start, story)
    found = []
    for index in run.waits():
        frames = run.frames(index)
        for function, label, _ in frames:
            found.extend([(function, one) for one in rest_of(version, function, label)])
        function, label, _ = frames[-1]
        found.extend([(function, one) for one in all_in((statement_at(version, function, label),))])
    end = run.end()
    if end is not None and end[0] == "become":
        found.extend([(end[1], one) for one in all_in(version.function(end[1])[4])])
    return talking(version, found)


def newcomers(version):
    """The sorted list of the sends and receives of all functions."""
    return talking(version, [(name, one) for name in version.names() for one in all_in(version.function(name)[4])])
