"""Replacement: which tasks move to a new version, and why others do not."""

from heldover.errors import NotFound, UnknownName
from heldover.moving import NEWCOMERS, Asked
from heldover.runs import Run
from heldover.syntax import items_of, statements
from heldover.versions import Version


def greatest(population, unread, new, names):
    """The sorted list of the tasks that move, and a dict from the names of the others to their reasons."""
    return Asked(population, unread, new, names).greatest_set()


def can_move(population, unread, new, names):
    """Whether the set of these tasks can move."""
    return Asked(population, unread, new, names).can_move_together()


def is_reason(population, unread, new, names, name, reason):
    """Whether a value of any kind is a reason of a task that is asked, or of newcomers."""
    asked = Asked(population, unread, new, names)
    if not isinstance(name, str) or name != NEWCOMERS and name not in asked.asked_names:
        raise NotFound(name)
    return asked.is_reason_of(name, reason)


def replace(machine, version, names=None):
    """Moves the greatest set of a machine to a version, if this is let; returns what greatest does."""
    asked = machine.names() if names is None else names
    moved, reasons = greatest(machine.population(), machine.unread(), version, asked)
    if NEWCOMERS not in reasons:
        machine.move(moved, machine.add_version(version))
    return moved, reasons


def keeps(placed, function, label):
    """Whether the run of a task (version, task) passes a mark somewhere."""
    version, (name, epoch, start, story) = placed
    run = Run(version, name, epoch, start, story)
    return any([run.frames(index)[-1][:2] == (function, label) for index in run.passed()])


def keepers(population, function, label):
    """The sorted list of the tasks that keep a mark."""
    return [name for name in sorted(population) if keeps(population[name], function, label)]


def item_without(what, item, label):
    """An item of a statement without a mark."""
    if what == "body":
        return body_without(item, label)
    if what in ("cases", "handlers"):
        return tuple([(*row[:-1], body_without(row[-1], label)) for row in item])
    return item


def body_without(body, label):
    """A body with the statements of the new arm in the place of the mark with this label."""
    found = []
    for statement in body:
        if statement[0] == "since" and statement[1] == label:
            found.extend(statement[2])
        else:
            found.append((statement[0], *[item_without(what, item, label) for what, item in items_of(statement)]))
    return tuple(found)


def without_mark(version, function, label):
    """The version without a mark."""
    *head, body = version.function(function)
    marks = [statement[1] for _, statement in statements(body) if statement[0] == "since"]
    if not isinstance(label, str) or label not in marks:
        raise UnknownName(label)
    changed = (*head, body_without(body, label))
    modules = []
    for module in version.modules():
        functions = [changed if one[0] == function else one for one in module[5]]
        modules.append((*module[:5], tuple(functions)))
    return Version(modules)
