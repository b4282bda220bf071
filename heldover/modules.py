"""Checking modules, one declaration after the other."""

from heldover.bodies import MOST_IN_BODY, FunctionCheck, Surroundings, signature_of
from heldover.effects import effects_of, is_endless, leads_of, unpaused
from heldover.errors import InvalidVersion
from heldover.scopes import Scope
from heldover.syntax import labelled
from heldover.values import are_kind_words, first_name, is_name, kind_depth, kind_problem

MOST_MODULES = 6
MOST_FUNCTIONS = 24
MOST_DOOR_FIELDS = 5
MOST_PARAMS = 5
MOST_INNER = 8


def has_module_form(value):
    """Whether it is a tuple of a NAME and five tuples."""
    if not isinstance(value, tuple) or len(value) != 6 or not is_name(value[0]):
        return False
    return all([isinstance(part, tuple) for part in value[1:]])


def are_variables(value, most):
    """Whether it is a tuple of at most so many (NAME, kind), the kinds any strings."""
    if not isinstance(value, tuple) or len(value) > most:
        return False
    return all([has_key_form(variable) for variable in value])


def has_door_form(value):
    """Whether it is a tuple (NAME, fields, kind), the kinds any strings."""
    if not isinstance(value, tuple) or len(value) != 3:
        return False
    return is_name(value[0]) and are_kind_words(value[1], MOST_DOOR_FIELDS) and isinstance(value[2], str)


def has_key_form(value):
    """Whether it is a tuple (NAME, kind), the kind any string."""
    return isinstance(value, tuple) and len(value) == 2 and is_name(value[0]) and isinstance(value[1], str)


def has_function_form(value):
    """Whether it is a function by its form, the kinds any strings and the body any tuple."""
    if not isinstance(value, tuple) or len(value) != 5 or not is_name(value[0]):
        return False
    if not are_variables(value[1], MOST_PARAMS) or not are_variables(value[2], MOST_INNER):
        return False
    return isinstance(value[3], str) and isinstance(value[4], tuple)


class Declarations:
    """What the modules declare, checked in the order of the document."""

    def __init__(self):
        self.used = {}
        self.used_tags = {}
        self.own_scopes = {}
        self.whole = Scope()
        self.kind_items = []
        self.effect_lists = {}
        self.labelled_modules = []

    def add_module(self, module):
        """Checks a module and adds what it declares."""
        name = first_name(module)
        if not has_module_form(module):
            raise InvalidVersion("form", name)
        if name in self.used:
            raise InvalidVersion("name", name)
        if not self.may_use(module[1]):
            raise InvalidVersion("uses", name)
        self.used[name] = True
        own, scope = Scope(), Scope()
        for other in module[1]:
            scope.include(self.own_scopes[other])
        places = [own, scope, self.whole]
        for item in module[2]:
            self.add_kind(item, name, places)
        for item in module[3]:
            self.add_door(item, name, places)
        for item in module[4]:
            self.add_key(item, name, places)
        functions = [self.add_function(item, name, places) for item in module[5]]
        self.own_scopes[name] = own
        self.labelled_modules.append((*module[:5], tuple(functions)))

    def may_use(self, names):
        """Whether these are earlier modules, each once."""
        if not all([isinstance(name, str) and name in self.own_scopes for name in names]):
            return False
        return len(set(names)) == len(names)

    def check_head(self, item, kinds, scope):
        """Checks the name and the kinds of a door, a key or a function."""
        name = item[0]
        if name in self.used:
            raise InvalidVersion("name", name)
        if not all([scope.has_kind(kind) for kind in kinds]):
            raise InvalidVersion("kind", name)
        self.used[name] = True

    def add_kind(self, item, module, places):
        """Checks a declared kind and adds it."""
        visible = places[1].depths
        problem = kind_problem(item, self.used, self.used_tags, visible)
        if problem is not None:
            raise InvalidVersion(problem, first_name(item) or module)
        self.used[item[0]] = True
        for tag, _ in item[1]:
            self.used_tags[tag] = True
        self.kind_items.append(item)
        depth = kind_depth(item, visible)
        for place in places:
            place.add_kind(item, depth)

    def add_door(self, item, module, places):
        """Checks a door and adds it."""
        if not has_door_form(item):
            raise InvalidVersion("form", first_name(item) or module)
        self.check_head(item, (*item[1], item[2]), places[1])
        for place in places:
            place.add_door(item)

    def add_key(self, item, module, places):
        """Checks a key and adds it."""
        if not has_key_form(item):
            raise InvalidVersion("form", first_name(item) or module)
        self.check_head(item, item[1:], places[1])
        for place in places:
            place.add_key(item)

    def add_function(self, item, module, places):
        """Checks a function and adds it; returns it with labels."""
        if not has_function_form(item):
            raise InvalidVersion("form", first_name(item) or module)
        scope = places[1]
        name, params, inner, result, body = item
        names = [variable for variable, _ in (*params, *inner)]
        self.check_head(item, [*[kind for _, kind in (*params, *inner)], result], scope)
        if len(set(names)) < len(names):
            raise InvalidVersion("variables", name)
        if len(self.effect_lists) == MOST_FUNCTIONS or len(body) > MOST_IN_BODY:
            raise InvalidVersion("limit", name)
        check = FunctionCheck(item, scope, self.effect_lists)
        check.check_body(body, Surroundings())
        check.check_shared(body)
        self.effect_lists[name] = effects_of(body, self.effect_lists)
        for place in places:
            place.add_function(labelled(item))
        return labelled(item)

    def leads(self):
        """Where the calls, starts and becomes of each function lead."""
        return {name: leads_of(function[4]) for name, function in self.whole.function_table.items()}

    def check_going_on(self):
        """Checks the starts and becomes, which may name functions of any module."""
        leads = self.leads()
        functions = self.whole.function_table
        for name, function in functions.items():
            variables = {variable: kind for variable, kind in (*function[1], *function[2])}
            for statement, paused in unpaused(function[4], False):
                target, operands = statement[-2:]
                if target not in functions:
                    raise InvalidVersion("unknown", name)
                if not self.whole.all_of(operands, signature_of(functions[target])[0], variables):
                    raise InvalidVersion("kind", name)
                if is_endless(statement, paused, name, leads):
                    raise InvalidVersion("endless", name)


def declared_by(modules):
    """What modules declare, checked; they are labelled."""
    if not isinstance(modules, (list, tuple)) or not 1 <= len(modules) <= MOST_MODULES:
        raise InvalidVersion("modules", None)
    declarations = Declarations()
    for module in modules:
        declarations.add_module(module)
    declarations.check_going_on()
    return declarations
