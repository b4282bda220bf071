"""Expressions: their form, what stands in them, and their values."""

from heldover.values import is_name, is_tag

LEVELS = 5
LONGEST_INTEGER = 250
# The least integer with one digit more than the longest one has; an exponent is at most 64.
TOO_LONG = 10 ** 50 * 10 ** 50 * 10 ** 50 * 10 ** 50 * 10 ** 50
INTEGER_OPERATORS = ("add", "sub", "mul", "div", "mod")
PAIR_OPERATORS = ("add", "sub", "mul", "div", "mod", "less", "same", "and", "or")


def operands_of(expression):
    """The operands of a tuple that has the word, the tag and the number of operands of an expression, or None."""
    if not expression or not isinstance(expression[0], str):
        return None
    word = expression[0]
    if word == "self":
        return () if len(expression) == 1 else None
    if word == "tag":
        return expression[2:] if len(expression) > 1 and is_tag(expression[1]) else None
    if word == "not":
        return expression[1:] if len(expression) == 2 else None
    return expression[1:] if word in PAIR_OPERATORS and len(expression) == 3 else None


def has_levels(value, levels):
    """Whether it is an expression by its form, of at most so many levels."""
    if levels == 0:
        return False
    if isinstance(value, bool):
        return True
    if isinstance(value, int):
        return -TOO_LONG < value < TOO_LONG
    if isinstance(value, str):
        return is_name(value)
    operands = operands_of(value) if isinstance(value, tuple) else None
    if operands is None:
        return False
    return all([has_levels(operand, levels - 1) for operand in operands])


def is_expression(value):
    """Whether it is an expression, by its form."""
    return has_levels(value, LEVELS)


def variables_in(expression):
    """The variables that an expression reads, from left to right."""
    if isinstance(expression, str):
        return [expression]
    if not isinstance(expression, tuple):
        return []
    return [name for operand in operands_of(expression) for name in variables_in(operand)]


def tags_in(expression):
    """The tags in an expression, from left to right."""
    if not isinstance(expression, tuple):
        return []
    own = [expression[1]] if expression[0] == "tag" else []
    return own + [tag for operand in operands_of(expression) for tag in tags_in(operand)]


def add(one, other):
    """The sum."""
    return one + other


def subtract(one, other):
    """The difference."""
    return one - other


def multiply(one, other):
    """The product."""
    return one * other


def divide(one, other):
    """The quotient, rounded down; 0 by 0, because no evaluation raises an error."""
    return 0 if other == 0 else one // other


def remainder(one, other):
    """What the quotient leaves; 0 by 0."""
    return 0 if other == 0 else one % other


def is_less(one, other):
    """Whether one integer is less than the other one."""
    return one < other


def are_equal(one, other):
    """Whether two values of one kind are equal."""
    return one == other


def conjunction(one, other):
    """Whether both are true."""
    return one and other


def disjunction(one, other):
    """Whether one of them is true."""
    return one or other


OPERATIONS = {
    "add": add, "sub": subtract, "mul": multiply, "div": divide, "mod": remainder,
    "less": is_less, "same": are_equal, "and": conjunction, "or": disjunction,
}


def operate(word, operands):
    """The value of an operator of two operands, or of not, for the values of its operands."""
    if word == "not":
        return not operands[0]
    operation = OPERATIONS[word]
    return operation(operands[0], operands[1])


def evaluate(expression, values, *, task=""):
    """The value of an expression, for a dict from variables to values and the name of the task."""
    if isinstance(expression, str):
        return values[expression]
    if not isinstance(expression, tuple):
        return expression
    word = expression[0]
    if word == "self":
        return task
    operands = [evaluate(operand, values, task=task) for operand in operands_of(expression)]
    if word == "tag":
        return (expression[1], *operands)
    return operate(word, operands)
