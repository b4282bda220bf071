"""Builds: the codes and maps of a version, and what of them can stay for another one."""

from heldover.compiler import compiled_all
from heldover.errors import InvalidCode, UnknownName
from heldover.judge import judge
from heldover.pipelines import all_came_in, copied_map
from heldover.stories import strictly_equal
from heldover.units import key_of_unit

STAYING_WORDS = ("same", "kept")


def unit_key(version, function, inlined=()):
    """The key of a function in a version, with functions that are inlined in its code."""
    for name in (function, *inlined):
        if name not in version:
            raise UnknownName(name)
    return key_of_unit(version, (function, *inlined))


class Unit:
    """The code and the map of a function, the functions that are inlined in the code, and the key of then."""

    def __init__(self, code, code_map, inlined, key):
        self.code = code
        self.code_map = code_map
        self.inlined_names = inlined
        self.compiled_key = key

    def has_key_in(self, version):
        """Whether the key in a version is the one of then."""
        names = (self.code[0], *self.inlined_names)
        if not all([name in version for name in names]):
            return False
        return strictly_equal(self.compiled_key, key_of_unit(version, names))

    def whole_unit(self):
        """The code and the map, as a tuple without dicts."""
        rows = []
        for block in sorted(self.code_map):
            meanings, recipes = self.code_map[block]
            rows.append((block, meanings, tuple(sorted(recipes.items()))))
        return (self.code, tuple(rows))


def compiled_unit(version, pipeline, name, codes, maps):
    """The unit of a function that has gone through a pipeline; codes and maps are those of the compiler."""
    code, code_map = pipeline.applied(version, name, codes=codes, maps=maps)
    inlined = all_came_in(pipeline.passes, version, codes, maps, name)
    return Unit(code, code_map, inlined, unit_key(version, name, inlined))


def compiled_units(version, pipeline, names):
    """A dict from these functions to their units."""
    codes, maps = compiled_all(version)
    return {name: compiled_unit(version, pipeline, name, codes, maps) for name in names}


def verdict_of(version, name, unit):
    """What becomes of a function in a version: the tuple of the report; unit is what there is, or None."""
    if unit is None:
        return ("new",)
    if unit.has_key_in(version):
        return ("same",)
    try:
        fault = judge(version, name, unit.code, unit.code_map)
    except InvalidCode:
        return ("compiled", None)
    return ("kept",) if fault is None else ("compiled", fault)


class Ready:
    """A pipeline, with the units that it and what came before have made."""

    def __init__(self, pipeline, units):
        self.pipeline = pipeline
        self.units = units


class Build:
    """The codes and the maps of a version, by a pipeline."""

    def __init__(self, version, pipeline):
        self.version = version
        if isinstance(pipeline, Ready):
            self.pipeline, self._units = pipeline.pipeline, pipeline.units
        else:
            self.pipeline, self._units = pipeline, compiled_units(version, pipeline, version.names())
        self._whole = tuple([(name, self._units[name].whole_unit()) for name in sorted(self._units)])

    def codes(self):
        """A dict from the functions to their codes."""
        return {name: unit.code for name, unit in self._units.items()}

    def maps(self):
        """A dict from the functions to their maps."""
        return {name: copied_map(unit.code_map) for name, unit in self._units.items()}

    def rebuilt(self, version):
        """The build of another version, and a report: what became of each of its functions."""
        units, report = {}, {}
        for name in version.names():
            report[name] = verdict_of(version, name, self._units.get(name))
            if report[name][0] in STAYING_WORDS:
                units[name] = self._units[name]
        further = [name for name in version.names() if name not in units]
        units.update(compiled_units(version, self.pipeline, further))
        return Build(version, Ready(self.pipeline, {name: units[name] for name in version.names()})), report

    def __eq__(self, other):
        if not isinstance(other, Build) or self.version != other.version or self.pipeline != other.pipeline:
            return False
        return strictly_equal(self._whole, other._whole)
