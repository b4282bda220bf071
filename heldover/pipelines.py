"""Pipelines: passes that are applied one after another."""

from heldover.compiler import compiled_all
from heldover.drafts import Draft
from heldover.errors import InvalidPass, UnknownName
from heldover.inlining import inline
from heldover.passes import apply_pass, is_pass
from heldover.termforms import copied_table


def copied_map(code_map):
    """A copy of a map."""
    return {block: (row[0], copied_table(row[1])) for block, row in code_map.items()}


def beginning_of(version, codes, maps):
    """The codes and the maps with which a pipeline begins, as dicts of its own."""
    if codes is None or maps is None:
        return compiled_all(version)
    return ({name: codes[name] for name in codes}, {name: copied_map(maps[name]) for name in maps})


def came_in(one, version, codes, maps, function):
    """The names of the functions of which blocks come in by a pass."""
    if one[0] != "inline":
        return []
    draft = Draft(codes[function], maps[function])
    found = inline(draft, one[1], version, codes, maps)
    # A pass whose result exceeds a limit leaves the code as it was.
    return found if draft.made()[0] != codes[function] else []


def all_came_in(passes, version, codes, maps, function):
    """The sorted list of the names of the functions of which blocks come in by passes, one after another."""
    codes = {name: codes[name] for name in codes}
    maps = {name: maps[name] for name in maps}
    found = []
    for one in passes:
        found.extend(came_in(one, version, codes, maps, function))
        codes[function], maps[function] = apply_pass(one, version, codes, maps, function)
    return sorted(set(found))


class Pipeline:
    """A tuple of passes."""

    STANDARD = ("constants", "copies", "equals", "copies", "dead", "hoist", "copies", "dead", "join")

    def __init__(self, *passes):
        for one in passes:
            if not is_pass(one):
                raise InvalidPass(one)
        self.passes = passes

    @classmethod
    def standard(cls, *labels):
        """The pipeline that inlines calls with these labels and then has the standard passes."""
        inlining = [("inline", label) for label in labels]
        return cls(*inlining, *cls.STANDARD)

    def stages(self, version, function, *, codes=None, maps=None):
        """Yields a tuple (pass, code, map) after each pass."""
        if function not in version:
            raise UnknownName(function)
        codes, maps = beginning_of(version, codes, maps)
        for one in self.passes:
            codes[function], maps[function] = apply_pass(one, version, codes, maps, function)
            yield one, codes[function], copied_map(maps[function])

    def applied(self, version, function, *, codes=None, maps=None):
        """The code and the map after all passes."""
        if function not in version:
            raise UnknownName(function)
        codes, maps = beginning_of(version, codes, maps)
        found = (codes[function], maps[function])
        for _, code, code_map in self.stages(version, function, codes=codes, maps=maps):
            found = (code, code_map)
        return found

    def inlined(self, version, function):
        """The sorted list of the names of the functions of which blocks come in."""
        if function not in version:
            raise UnknownName(function)
        codes, maps = compiled_all(version)
        return all_came_in(self.passes, version, codes, maps, function)

    def _words(self):
        """The reprs of the passes."""
        return [repr(one) for one in self.passes]

    def __eq__(self, other):
        return isinstance(other, Pipeline) and self.passes == other.passes

    def __len__(self):
        return len(self.passes)

    def __contains__(self, x):
        return is_pass(x) and x in self.passes

    def __add__(self, other):
        if not isinstance(other, Pipeline):
            return NotImplemented
        return Pipeline(*self.passes, *other.passes)

    def __repr__(self):
        return f"Pipeline({', '.join(self._words())})"


def optimized(version, pipeline):
    """The codes and the maps of all functions, each gone through the pipeline."""
    codes, maps = compiled_all(version)
    found, known = {}, {}
    for name in version.names():
        found[name], known[name] = pipeline.applied(version, name, codes=codes, maps=maps)
    return (found, known)
