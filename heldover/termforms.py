"""The form of terms, and what stands in them."""

from heldover.codes import MOST_PARTS, MOST_SLOTS, is_below, is_worded, operation_operands
from heldover.operations import head_of, inner_of, operated
from heldover.stories import is_datum
from heldover.values import is_label, is_name

VARIABLE = "var"
ROUND = "round"
SLOT = "slot"
ANSWER = ("answer",)
UNKNOWNS = ("var", "round", "slot")
# How many operations stand within each other in the terms of maps, and in those of paths.
MAP_LEVELS = 10
PATH_LEVELS = 100
PATH_SUBTERMS = 5000
# More subterms than a term of a map has that keeps to its levels.
MAP_SUBTERMS = 3 ** 11


def is_path(value):
    """Whether it is a tuple of at most twenty labels."""
    return isinstance(value, tuple) and len(value) <= MOST_PARTS and all([is_label(label) for label in value])


def is_variable(value):
    """Whether it is an unknown for a variable."""
    if not is_worded(value) or value[0] != VARIABLE or len(value) != 3:
        return False
    return is_path(value[1]) and is_name(value[2])


def is_round(value):
    """Whether it is an unknown for the round of a loop."""
    if not is_worded(value) or value[0] != ROUND or len(value) != 3:
        return False
    return is_path(value[1]) and is_label(value[2])


def is_slot(value):
    """Whether it is an unknown for a slot."""
    return is_worded(value) and value[0] == SLOT and len(value) == 2 and is_below(value[1], MOST_SLOTS)


def is_unknown(value):
    """Whether it is an unknown of a term of a map."""
    return is_variable(value) or is_round(value) or is_slot(value)


def is_path_unknown(value):
    """Whether it is an unknown of a term of a path."""
    if isinstance(value, tuple) and len(value) == 1:
        return isinstance(value[0], str) and value[0] == ANSWER[0]
    return is_unknown(value)


def count_subterms(value, levels, room, allowed):
    """How many subterms a term has, itself counted; None if it is no term, or has not these levels and this room.

    allowed tells which unknowns may occur.
    """
    if room <= 0 or not is_worded(value):
        return None
    if value[0] == "value":
        return 1 if len(value) == 2 and is_datum(value[1]) else None
    if value[0] in UNKNOWNS or value[0] == ANSWER[0]:
        return 1 if allowed(value) else None
    operands = operation_operands(value)
    if operands is None or levels == 0:
        return None
    count = 1
    for operand in operands:
        further = count_subterms(operand, levels - 1, room - count, allowed)
        if further is None:
            return None
        count += further
    return count


def is_map_term(value):
    """Whether it is a term as maps have it."""
    return count_subterms(value, MAP_LEVELS, MAP_SUBTERMS, is_unknown) is not None


def is_path_term(value):
    """Whether it is a term as paths have it."""
    return count_subterms(value, PATH_LEVELS, PATH_SUBTERMS, is_path_unknown) is not None


def is_value_term(term):
    """Whether the term is a value."""
    return term[0] == "value"


def has_operands(term):
    """Whether the term is an operation, neither an unknown nor a value."""
    return term[0] not in UNKNOWNS and term != ANSWER and term[0] != "value"


def copied_table(table):
    """A copy of a dict from unknowns."""
    return {unknown: table[unknown] for unknown in table}


def unknowns_in(term):
    """A dict that has the unknowns in a term as its keys."""
    if not has_operands(term):
        return {} if is_value_term(term) else {term: True}
    found = {}
    for operand in inner_of(term):
        for unknown in unknowns_in(operand):
            found[unknown] = True
    return found


def names_task(term):
    """Whether the name of the task stands in a term."""
    if term == ("self",):
        return True
    return has_operands(term) and any([names_task(operand) for operand in inner_of(term)])


def put_in(term, table):
    """The term with other terms for the unknowns that are keys of the table."""
    if not has_operands(term):
        return term if is_value_term(term) else table.get(term, term)
    operands = [put_in(operand, table) for operand in inner_of(term)]
    return (*head_of(term), *operands)


def levels_of(term):
    """How many operations stand within each other in a term."""
    if not has_operands(term):
        return 0
    return 1 + max([levels_of(operand) for operand in inner_of(term)], default=0)


def value_in(term, values, task):
    """The value of a term, for a dict from unknowns to data; None if it has none."""
    if term[0] == "value":
        return term[1]
    if term == ("self",):
        return task
    if not has_operands(term):
        return values.get(term)
    operands = [value_in(operand, values, task) for operand in inner_of(term)]
    if any([operand is None for operand in operands]):
        return None
    return operated(head_of(term), operands)


def recipe_values(recipes, slots):
    """A dict from the variables that have recipes to their values, or None."""
    values = {(SLOT, slot): value for slot, value in enumerate(slots) if value is not None}
    found = {}
    for variable, recipe in recipes.items():
        found[variable] = None if recipe is None else value_in(recipe, values, "")
    return found
