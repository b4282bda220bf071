"""Checking the statements of a function."""

from heldover.errors import InvalidVersion
from heldover.syntax import (
    DEEPEST_BODY, LAST_WORDS, bodies_of, expressions_of, has_bodies, has_statement_form, label_of, read_in, set_in,
    statements, variables_set,
)
from heldover.values import BASIC_KINDS

MOST_IN_BODY = 12
MOST_IN_FUNCTION = 40


class Surroundings:
    """What stands around a body: how many bodies, itself counted, a loop that may be left, and a both."""

    def __init__(self, depth=1, looped=False, sealed=False):
        self.depth = depth
        self.looped = looped
        self.sealed = sealed

    def inside(self, word):
        """What stands around a body of a statement with this word."""
        if word == "both":
            return Surroundings(self.depth + 1, False, True)
        return Surroundings(self.depth + 1, self.looped or word == "loop", self.sealed)


class FunctionCheck:
    """Checks the statements of one function, one after the other in the order of the text."""

    def __init__(self, function, scope, effects):
        self.owner = function[0]
        self.variables = {name: kind for name, kind in (*function[1], *function[2])}
        self.result = function[3]
        self.scope = scope
        self.effect_lists = effects
        self.labels = {}
        self.count = 0

    def check_body(self, body, around):
        """Checks the statements of a body, each by itself before those in its bodies."""
        before = None
        for statement in body:
            problem = self.problem_of(statement, before, around)
            if problem is not None:
                raise InvalidVersion(problem, self.owner)
            if label_of(statement):
                self.labels[label_of(statement)] = True
            for inner in bodies_of(statement):
                self.check_body(inner, around.inside(statement[0]))
            before = statement[0]

    def check_shared(self, body):
        """Checks that no both sets a variable in one body and sets or reads it in the other one."""
        for _, statement in statements(body):
            if statement[0] == "both" and shares(statement[2], statement[3]):
                raise InvalidVersion("shared", self.owner)

    def problem_of(self, statement, before, around):
        """The first problem of a statement by itself, or None; before is the word before it in its body."""
        self.count += 1
        if not has_statement_form(statement):
            return "form"
        if before in LAST_WORDS:
            return "behind"
        if self.count > MOST_IN_FUNCTION or is_too_large(statement, around):
            return "limit"
        if label_of(statement) in self.labels:
            return "label"
        if self.leaves(statement, around):
            return "leave"
        if not self.knows_names(statement):
            return "unknown"
        return None if self.kinds_fit(statement) else "kind"

    def leaves(self, statement, around):
        """Whether a statement leaves what must not be left, or calls a function that becomes another one."""
        word = statement[0]
        if word == "break":
            return not around.looped
        if word in ("return", "become"):
            return around.sealed
        if word != "call" or statement[3] not in self.scope.function_table:
            return False
        return any([effect[0] == "become" for effect in self.effect_lists[statement[3]]])

    def knows_names(self, statement):
        """Whether the names of a statement are variables, or visible; functions of starts and becomes may be any."""
        if not all([name in self.variables for name in variables_set(statement)]):
            return False
        if not all([self.scope.names_known(one, self.variables) for one in expressions_of(statement)]):
            return False
        word = statement[0]
        if word == "match":
            return all([tag in self.scope.tag_table for tag, _, _ in statement[2]])
        if word == "call":
            return statement[3] in self.scope.function_table
        if word == "ask":
            return statement[3] in self.scope.door_table
        return word not in ("send", "receive") or statement[3] in self.scope.key_table

    def is_of(self, expression, kind):
        """Whether an expression is of this kind."""
        return self.scope.kind_of(expression, self.variables) == kind

    def kinds_fit(self, statement):
        """Whether the expressions and variables of a statement are of their kinds."""
        word = statement[0]
        if word == "set":
            return self.is_of(statement[2], self.variables[statement[1]])
        if word == "if":
            return self.is_of(statement[1], "bool")
        if word == "match":
            return self.cases_fit(statement[1], statement[2])
        if word == "return":
            return self.is_of(statement[1], self.result)
        if word == "sleep":
            return self.is_of(statement[2], "int")
        if word == "send":
            return self.is_of(statement[2], "task") and self.is_of(statement[4], self.scope.key_table[statement[3]])
        if word == "receive":
            return self.variables[statement[2]] == self.scope.key_table[statement[3]]
        if word == "start":
            return self.variables[statement[2]] == "task"
        return word not in ("call", "ask") or self.operands_fit(statement)

    def operands_fit(self, statement):
        """Whether the args of a call or an ask, and what gets the answer, are of their kinds."""
        if statement[0] == "ask":
            fields, kind = self.scope.door_table[statement[3]]
        else:
            fields, kind = signature_of(self.scope.function_table[statement[3]])
        return self.variables[statement[2]] == kind and self.scope.all_of(statement[4], fields, self.variables)

    def cases_fit(self, expression, cases):
        """Whether there is a case for each variant, in order, with different variables of the kinds of its fields."""
        kind = self.scope.kind_of(expression, self.variables)
        if kind is None or kind in BASIC_KINDS:
            return False
        found = [(tag, tuple([self.variables[name] for name in names])) for tag, names, _ in cases]
        if found != list(self.scope.variant_table[kind]):
            return False
        return all([len(set(names)) == len(names) for _, names, _ in cases])


def is_too_large(statement, around):
    """Whether a body of the statement is too long, or it has bodies in the deepest body."""
    if has_bodies(statement[0]) and around.depth == DEEPEST_BODY:
        return True
    return any([len(body) > MOST_IN_BODY for body in bodies_of(statement)])


def shares(one, other):
    """Whether a variable that is set in one body is set or read in the other one."""
    touched_here = set_in(one) + read_in(one)
    touched_there = set_in(other) + read_in(other)
    if any([name in touched_there for name in set_in(one)]):
        return True
    return any([name in touched_here for name in set_in(other)])


def signature_of(function):
    """The kinds of the parameters of a function, and of its result."""
    return (tuple([kind for _, kind in function[1]]), function[3])
