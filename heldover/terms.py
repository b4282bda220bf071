"""Terms with kinds and conditions, and which of them are equal."""

from heldover.building import built
from heldover.errors import InvalidTerm
from heldover.facts import Facts
from heldover.nodes import Nodes
from heldover.termforms import is_path_term, is_path_unknown, unknowns_in


def is_term(value):
    """Whether it is a term of paths."""
    return is_path_term(value)


def unknowns(term):
    """The sorted list of the unknowns in a term."""
    if not is_path_term(term):
        raise InvalidTerm(term)
    return sorted(unknowns_in(term))


def listed(nodes, number):
    """A node with all that stands in it, as a tuple of descriptions that name each other by their positions."""
    positions, found, waiting = {}, [], [number]
    while waiting:
        last = waiting[-1]
        missing = [child for child in nodes.children(last) if child not in positions]
        if missing:
            waiting.append(missing[0])
            continue
        waiting.pop()
        if last not in positions:
            word, texts, numbers, children = nodes.descriptions[last]
            positions[last] = len(found)
            found.append((word, texts, numbers, tuple([positions[child] for child in children])))
    return tuple(found)


class Terms:
    """Terms over unknowns of these kinds, under conditions."""

    def __init__(self, version, kinds, conditions=()):
        known = version.kinds()
        for unknown, kind in kinds.items():
            if not is_path_unknown(unknown) or not known.is_kind(kind):
                raise InvalidTerm(unknown)
        self._version = version
        self._kind_table = {unknown: kinds[unknown] for unknown in kinds}
        self._conditions = []
        nodes = Nodes(version)
        self._table = {unknown: nodes.unknown(unknown, kind) for unknown, kind in kinds.items()}
        self._facts = Facts(nodes)
        for condition in conditions:
            self._facts = self._facts.with_truth(self._condition_node(condition), condition[1])
            self._conditions.append(condition)

    def _built(self, term):
        """The node of a term, None if it is no defined term."""
        return built(self._facts, term, self._table) if is_path_term(term) else None

    def _rewritten(self, term):
        """The node of a term as the conditions make it."""
        number = self._built(term)
        if number is None:
            raise InvalidTerm(term)
        return self._facts.rewritten(number)

    def _condition_node(self, condition):
        """The node of the term of a condition."""
        if not isinstance(condition, tuple) or len(condition) != 2 or not isinstance(condition[1], bool):
            raise InvalidTerm(condition)
        number = self._built(condition[0])
        if number is None or self._facts.nodes.kind_list[number] != "bool":
            raise InvalidTerm(condition)
        return number

    def kind(self, term):
        """The kind of a defined term."""
        return self._facts.nodes.kind_list[self._rewritten(term)]

    def is_defined(self, term):
        """Whether it is a defined term."""
        return self._built(term) is not None

    def normal(self, term):
        """The normal form: equal for terms that can be rewritten into each other."""
        number = self._rewritten(term)
        # Where no values meet the conditions, all terms can be rewritten into each other.
        return () if self._facts.impossible else listed(self._facts.nodes, number)

    def same_terms(self, one, other):
        """Whether two terms have equal normal forms."""
        ours, theirs = self._rewritten(one), self._rewritten(other)
        return ours == theirs or self._facts.impossible

    def exclude(self, one, other):
        """Whether no values meet two conditions."""
        ours, theirs = self._condition_node(one), self._condition_node(other)
        if self._facts.with_truth(ours, one[1]).with_truth(theirs, other[1]).impossible:
            return True
        return self._facts.with_truth(theirs, other[1]).with_truth(ours, one[1]).impossible

    def given(self, condition):
        """Terms with one more condition."""
        self._condition_node(condition)
        return Terms(self._version, self._kind_table, [*self._conditions, condition])
