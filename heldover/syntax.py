"""Statements: of which items they consist, their bodies and their labels."""

from heldover.expressions import is_expression, variables_in
from heldover.values import is_integer, is_label, is_name, is_tag

# What stands behind the word of each statement.
SHAPES = {
    "set": ("variable", "expression"),
    "if": ("expression", "body", "body"),
    "match": ("expression", "cases"),
    "loop": ("label", "rounds", "body"),
    "break": (),
    "return": ("expression",),
    "raise": ("error",),
    "try": ("label", "body", "handlers"),
    "call": ("label", "variable", "function", "operands"),
    "ask": ("label", "variable", "door", "operands"),
    "send": ("label", "expression", "key", "expression"),
    "receive": ("label", "variable", "key"),
    "sleep": ("label", "expression"),
    "start": ("label", "variable", "function", "operands"),
    "both": ("label", "body", "body"),
    "since": ("label", "body", "body"),
    "become": ("function", "operands"),
}
BODY_ITEMS = ("body", "cases", "handlers")
NAME_ITEMS = ("variable", "function", "door", "key", "error")
LAST_WORDS = ("break", "return", "raise", "become")
MOST_ROUNDS = 9
MOST_CASES = 6
MOST_HANDLERS = 3
# How many bodies lie within each other, the function's own one counted.
DEEPEST_BODY = 5


def items_of(statement):
    """The items behind the word of a statement, as tuples (what it is, item)."""
    return list(zip(SHAPES[statement[0]], statement[1:]))


def label_of(statement):
    """The label of a statement, None if statements with its word have none."""
    return statement[1] if SHAPES[statement[0]][:1] == ("label",) else None


def bodies_in(what, item):
    """The bodies in one item of a statement."""
    if what == "body":
        return [item]
    if what in ("cases", "handlers"):
        return [row[-1] for row in item]
    return []


def bodies_of(statement):
    """The bodies of a statement, in their order."""
    return [body for what, item in items_of(statement) for body in bodies_in(what, item)]


def has_bodies(word):
    """Whether statements with this word have bodies."""
    return any([what in BODY_ITEMS for what in SHAPES[word]])


def expressions_of(statement):
    """The expressions of a statement itself, from left to right."""
    found = []
    for what, item in items_of(statement):
        if what == "expression":
            found.append(item)
        if what == "operands":
            found.extend(item)
    return found


def variables_set(statement):
    """The variables that a statement itself sets, those of its cases too."""
    found = []
    for what, item in items_of(statement):
        if what == "variable":
            found.append(item)
        if what == "cases":
            found.extend([name for _, names, _ in item for name in names])
    return found


def statements(body):
    """Yields tuples (path, statement) for all statements of a body, in the order of the text."""
    for place, statement in enumerate(body):
        yield (place,), statement
        for number, inner in enumerate(bodies_of(statement)):
            for path, deeper in statements(inner):
                yield (place, number, *path), deeper


def set_in(body):
    """The sorted list of the variables that are set in a body, at any depth."""
    return sorted(set([name for _, statement in statements(body) for name in variables_set(statement)]))


def read_in(body):
    """The sorted list of the variables that are read in a body, at any depth."""
    found = [expression for _, statement in statements(body) for expression in expressions_of(statement)]
    return sorted(set([name for expression in found for name in variables_in(expression)]))


def missing_labels(body):
    """The labels for the statements that have "", in the order of the text."""
    labels = [label_of(statement) for _, statement in statements(body)]
    taken = {label: True for label in labels}
    found = []
    number = 1
    for _ in range(labels.count("")):
        while str(number) in taken:
            number += 1
        found.append(str(number))
        number += 1
    return found


def relabelled_item(what, item, labels):
    """An item of a statement, with the first of the labels, one after the other, in the place of ""."""
    if what == "label" and item == "":
        return labels.pop(0)
    if what == "body":
        return relabelled_body(item, labels)
    if what in ("cases", "handlers"):
        return tuple([(*row[:-1], relabelled_body(row[-1], labels)) for row in item])
    return item


def relabelled_body(body, labels):
    """A body with labels in the place of ""; they are taken away from the list."""
    found = []
    for statement in body:
        items = [relabelled_item(what, item, labels) for what, item in items_of(statement)]
        found.append((statement[0], *items))
    return tuple(found)


def labelled(function):
    """The function with labels in the place of ""."""
    body = function[-1]
    return (*function[:-1], relabelled_body(body, missing_labels(body)))


def is_case(value):
    """Whether it has the form of a case: (tag, variables, body)."""
    if not isinstance(value, tuple) or len(value) != 3 or not is_tag(value[0]):
        return False
    if not isinstance(value[1], tuple) or not isinstance(value[2], tuple):
        return False
    return all([is_name(name) for name in value[1]])


def are_handlers(value):
    """Whether it is a tuple of one to three handlers (error, body) of different errors."""
    if not isinstance(value, tuple) or not 1 <= len(value) <= MOST_HANDLERS:
        return False
    for handler in value:
        if not isinstance(handler, tuple) or len(handler) != 2:
            return False
        if not is_name(handler[0]) or not isinstance(handler[1], tuple):
            return False
    return len(set([error for error, _ in value])) == len(value)


def item_has_form(what, item):
    """Whether an item of a statement has its form; bodies may be any tuples."""
    if what in NAME_ITEMS:
        return is_name(item)
    if what == "label":
        return is_label(item) or isinstance(item, str) and item == ""
    if what == "rounds":
        return is_integer(item) and 1 <= item <= MOST_ROUNDS
    if what == "expression":
        return is_expression(item)
    if not isinstance(item, tuple):
        return False
    if what == "operands":
        return all([is_expression(operand) for operand in item])
    if what == "cases":
        return 1 <= len(item) <= MOST_CASES and all([is_case(case) for case in item])
    return what == "body" or are_handlers(item)


def has_statement_form(value):
    """Whether it is a statement by its form."""
    if not isinstance(value, tuple) or not value or not isinstance(value[0], str):
        return False
    shape = SHAPES.get(value[0])
    if shape is None or len(value) != len(shape) + 1:
        return False
    return all([item_has_form(what, item) for what, item in items_of(value)])
