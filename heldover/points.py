"""What is known of the points of a code by its map: where they stand, and what holds when a path begins there."""

from heldover.building import built, contains, substituted
from heldover.codepaths import CodePath
from heldover.facts import Facts
from heldover.sources import SourcePath
from heldover.termforms import ROUND, SLOT, VARIABLE, copied_table, put_in, unknowns_in


def atom_of(nodes, number):
    """The node of an unknown itself, without the sum around it."""
    return nodes.sums[number][0][0][0] if nodes.kind_list[number] == "int" else number


def with_slots(recipe, meanings):
    """A recipe with the meanings put in for slots, None if one of them has none."""
    table = {(SLOT, slot): meaning for slot, meaning in enumerate(meanings) if meaning is not None}
    if any([unknown not in table for unknown in unknowns_in(recipe)]):
        return None
    return put_in(recipe, table)


class Point:
    """A point of a code, and the position at which it stands."""

    def __init__(self, nodes, block, place, row, layers):
        self.nodes = nodes
        self.block = block
        self.where = place
        self.meanings, self.recipes = row
        self.layers = layers
        self.parts = layers[-1].whole_parts()
        self.unknown_table = {}
        for layer in layers:
            for name, kind in (*layer.graph.params, *layer.graph.inner):
                variable = (VARIABLE, layer.path, name)
                self.unknown_table[variable] = nodes.unknown(variable, kind)
        # For each part of the place the unknown for its round, None if it is none.
        self.round_unknowns = []
        for layer in layers:
            for label, number in layer.current_step().parts:
                self.round_unknowns.append((ROUND, layer.path, label) if number is None else None)
        for unknown in self.round_unknowns:
            if unknown is not None:
                self.unknown_table[unknown] = nodes.unknown(unknown, "int")

    def step(self):
        """The step of the text at which it stands."""
        return self.layers[-1].current_step()

    def rounds(self):
        """The list of (position of the loop, number in the place, unknown) for the rounds in its place."""
        found = []
        for at, unknown in enumerate(self.round_unknowns):
            if unknown is not None:
                found.append((self.parts[:at + 1], self.where[at][1], unknown))
        return found

    def locals_of(self):
        """The (name, kind) of the locals of the function at the beginning of which it stands."""
        return self.layers[-1].graph.inner

    def known_table(self):
        """The nodes of variables and rounds at the beginning of paths: rounds by the place, variables by recipes."""
        facts, table = Facts(self.nodes), copied_table(self.unknown_table)
        for _, number, unknown in self.rounds():
            if not isinstance(number, tuple):
                table[unknown] = self.nodes.integer(number)
            elif self.meanings[number[1]] != unknown:
                table[unknown] = built(facts, self.meanings[number[1]], table)
        if self.block == 0:
            kinds = self.layers[-1].graph.version.kinds()
            for name, kind in self.locals_of():
                table[VARIABLE, (), name] = self.nodes.datum(kinds.zero(kind))
            return table
        for variable in sorted(self.recipes):
            recipe = self.recipes[variable]
            term = None if recipe is None else with_slots(recipe, self.meanings)
            number = None if term is None else built(facts, term, table)
            atom = atom_of(self.nodes, self.unknown_table[variable])
            if number is None or self.nodes.kind_list[number] != self.nodes.kind_list[atom]:
                continue
            if not contains(self.nodes, number, atom):
                table = {unknown: substituted(facts, value, {atom: number}) for unknown, value in table.items()}
        return table

    def beginning(self):
        """A path of the text and a path of the code that begin here."""
        facts, table = Facts(self.nodes), self.known_table()
        slots = [None if meaning is None else built(facts, meaning, table) for meaning in self.meanings]
        return SourcePath(tuple(self.layers), table, facts), CodePath(self.block, slots, facts)
