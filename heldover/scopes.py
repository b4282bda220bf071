"""What is visible at a place of a module, and the kinds of expressions there."""

from heldover.expressions import INTEGER_OPERATORS, operands_of, tags_in, variables_in
from heldover.values import BASIC_KINDS


class Scope:
    """Kinds, tags, doors, keys and functions that are visible."""

    def __init__(self):
        self.depths = {}
        self.variant_table = {}
        self.tag_table = {}
        self.door_table = {}
        self.key_table = {}
        self.function_table = {}

    def add_kind(self, item, depth):
        """Adds a declared kind, with its tags and its depth."""
        name, variants = item
        self.depths[name] = depth
        self.variant_table[name] = variants
        for tag, fields in variants:
            self.tag_table[tag] = (name, fields)

    def add_door(self, item):
        """Adds a door."""
        self.door_table[item[0]] = (item[1], item[2])

    def add_key(self, item):
        """Adds a key."""
        self.key_table[item[0]] = item[1]

    def add_function(self, item):
        """Adds a function."""
        self.function_table[item[0]] = item

    def include(self, other):
        """Adds all that another scope has."""
        self.depths.update(other.depths)
        self.variant_table.update(other.variant_table)
        self.tag_table.update(other.tag_table)
        self.door_table.update(other.door_table)
        self.key_table.update(other.key_table)
        self.function_table.update(other.function_table)

    def has_kind(self, kind):
        """Whether the kind is basic or visible."""
        return kind in BASIC_KINDS or kind in self.depths

    def names_known(self, expression, variables):
        """Whether the names in an expression are variables, and its tags are visible."""
        if not all([name in variables for name in variables_in(expression)]):
            return False
        return all([tag in self.tag_table for tag in tags_in(expression)])

    def kind_of(self, expression, variables):
        """The kind of an expression whose names are known, None if an operand is not of its kind."""
        if isinstance(expression, bool):
            return "bool"
        if isinstance(expression, int):
            return "int"
        if isinstance(expression, str):
            return variables[expression]
        word = expression[0]
        if word == "self":
            return "task"
        kinds = [self.kind_of(operand, variables) for operand in operands_of(expression)]
        if word == "tag":
            kind, fields = self.tag_table[expression[1]]
            return kind if kinds == list(fields) else None
        return operator_kind(word, kinds)

    def all_of(self, operands, kinds, variables):
        """Whether there is one expression of each of these kinds, in their order."""
        return [self.kind_of(operand, variables) for operand in operands] == list(kinds)


def operator_kind(word, kinds):
    """The kind of the result of an operator with operands of these kinds, None if they do not fit."""
    if word in INTEGER_OPERATORS or word == "less":
        result = "bool" if word == "less" else "int"
        return result if kinds == ["int", "int"] else None
    if word == "same":
        return "bool" if kinds[0] is not None and kinds[0] == kinds[1] else None
    return "bool" if all([kind == "bool" for kind in kinds]) else None
