"""Versions: modules that are right together."""

from heldover.bodies import signature_of
from heldover.effects import reached
from heldover.errors import UnknownName
from heldover.modules import declared_by
from heldover.texts import modules_text, read_modules
from heldover.values import Kinds


class Version:
    """The modules that a task runs."""

    def __init__(self, modules):
        declarations = declared_by(modules)
        self._modules = tuple(declarations.labelled_modules)
        self._kinds = Kinds(declarations.kind_items)
        self._functions = declarations.whole.function_table
        self._doors = declarations.whole.door_table
        self._keys = declarations.whole.key_table
        self._effects = declarations.effect_lists
        self._leads = declarations.leads()
        self._text = modules_text(self._modules)

    @classmethod
    def read(cls, text):
        """The version with this text."""
        return cls(read_modules(text))

    def modules(self):
        """The list of the modules, with labels."""
        return list(self._modules)

    def kinds(self):
        """The Kinds of all declared kinds."""
        return self._kinds

    def names(self):
        """The list of the names of its functions."""
        return list(self._functions)

    def function(self, name):
        """The function with this name, with labels."""
        if name not in self:
            raise UnknownName(name)
        return self._functions[name]

    def signature(self, name):
        """The kinds of the parameters of a function, and of its result."""
        return signature_of(self.function(name))

    def effects(self, name):
        """The sorted list of the effects of a function."""
        if name not in self:
            raise UnknownName(name)
        return list(self._effects[name])

    def to_come(self, name):
        """The sorted list of the effects to come of a function."""
        if name not in self:
            raise UnknownName(name)
        found = [effect for other in reached(name, self._leads) for effect in self._effects[other]]
        return sorted(set([effect for effect in found if effect[0] != "raise"]))

    def door(self, name):
        """The fields of a door, and the kind of its answers."""
        if not isinstance(name, str) or name not in self._doors:
            raise UnknownName(name)
        return self._doors[name]

    def key(self, name):
        """The kind of a key."""
        if not isinstance(name, str) or name not in self._keys:
            raise UnknownName(name)
        return self._keys[name]

    def __eq__(self, other):
        return isinstance(other, Version) and self._text == other._text

    def __len__(self):
        return len(self._functions)

    def __contains__(self, x):
        return isinstance(x, str) and x in self._functions

    def __str__(self):
        return str(self._text)

    def __repr__(self):
        return f"Version({self.names()!r})"
