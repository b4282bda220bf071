"""The text of modules, and reading it back."""

from heldover.errors import InvalidText
from heldover.expressions import operands_of
from heldover.lines import NO_LABEL
from heldover.reading import INDENT, Reader
from heldover.syntax import BODY_ITEMS, items_of


def expression_text(expression):
    """The text of an expression."""
    if isinstance(expression, bool):
        return "true" if expression else "false"
    if not isinstance(expression, tuple):
        return str(expression)
    if expression == ("self",):
        return "self"
    word = expression[1] if expression[0] == "tag" else expression[0]
    words = [word] + [expression_text(operand) for operand in operands_of(expression)]
    return f"({' '.join(words)})"


def item_words(what, item):
    """The words of an item in the line of its statement."""
    if what == "label":
        return [item if item != "" else NO_LABEL]
    if what == "expression":
        return [expression_text(item)]
    if what == "operands":
        return [expression_text(operand) for operand in item]
    return [] if what in BODY_ITEMS else [str(item)]


def headed_bodies(statement):
    """The bodies of a statement, each as a tuple (words of the line before it, body)."""
    found = []
    for what, item in items_of(statement):
        if what == "body":
            found.append((["else"] if found else [], item))
        if what == "cases":
            found.extend([(["case", tag, *names], body) for tag, names, body in item])
        if what == "handlers":
            found.extend([(["on", error], body) for error, body in item])
    return found


def statement_lines(statement, indent):
    """The lines of a statement with its bodies."""
    words = [word for what, item in items_of(statement) for word in item_words(what, item)]
    lines = [" ".join([indent + statement[0], *words])]
    for head, body in headed_bodies(statement):
        if head:
            lines.append(indent + " ".join(head))
        lines.extend(body_lines(body, indent + INDENT))
    return lines


def body_lines(body, indent):
    """The lines of a body."""
    return [line for statement in body for line in statement_lines(statement, indent)]


def variable_words(variables):
    """The words of variables with their kinds."""
    return [f"{name}:{kind}" for name, kind in variables]


def variant_text(variant):
    """The text of a variant; without fields it has no brackets."""
    tag, fields = variant
    return f"{tag}({','.join(fields)})" if fields else tag


def function_lines(function):
    """The lines of a function."""
    name, params, inner, result, body = function
    lines = [f"function {name}({','.join(variable_words(params))}) {result}"]
    if inner:
        lines.append(" ".join([INDENT + "local", *variable_words(inner)]))
    return lines + body_lines(body, INDENT)


def module_lines(module):
    """The lines of a module."""
    name, uses, kinds, doors, keys, functions = module
    lines = [f"module {name}"]
    if uses:
        lines.append(" ".join(["uses", *uses]))
    for kind, variants in kinds:
        lines.append(" ".join(["kind", kind, *[variant_text(variant) for variant in variants]]))
    for door, fields, kind in doors:
        lines.append(f"door {door}({','.join(fields)}) {kind}")
    for key, kind in keys:
        lines.append(f"key {key} {kind}")
    return lines + [line for function in functions for line in function_lines(function)]


def modules_text(modules):
    """The text of modules."""
    return "".join([f"{line}\n" for module in modules for line in module_lines(module)])


def read_modules(text):
    """The list of the modules with this text."""
    if not isinstance(text, str):
        raise InvalidText(0)
    lines = text.split("\n")
    rest = lines.pop()
    modules = Reader(lines).all_modules()
    if rest != "":
        # A last line without line feed begins no text; all lines before it were read.
        raise InvalidText(len(lines) + 1)
    return modules
