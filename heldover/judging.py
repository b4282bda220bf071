"""What the judge knows of a code and a map: points, positions, and boths with what must hold at their ends."""

from heldover.building import built
from heldover.codes import WAITING_WORDS
from heldover.facts import Facts
from heldover.graphs import Texts
from heldover.nodes import FALSE, Nodes
from heldover.points import Point
from heldover.termforms import SLOT, VARIABLE, names_task, unknowns_in
from heldover.transfers import Both, demands_at, region_of
from heldover.ways import inner_targets, targets

TEXT_WORDS = {"since": "mark"}


class Case:
    """A code and a map of a function that are judged."""

    def __init__(self, version, function, code, code_map):
        self.version = version
        self.function_name = function
        self.code = code
        self.code_map = code_map
        self.texts = Texts(version)
        self.nodes = Nodes(version)
        self.points = {}
        # The positions at which the code has a point.
        self.stops = {}
        # For each loop, told by the position of its head, the numbers that places have for its rounds.
        self.round_numbers = {}
        self.boths = []

    def end_of(self, point):
        """The end of the block of a point."""
        return self.code[3][point.block][2]

    def reachable_points(self):
        """The points to which ways lead from block 0, ascending."""
        ways = [targets(block[2]) for block in self.code[3]]
        return [block for block in sorted(region_of(ways, 0)) if block in self.points]

    def fault_of_form(self):
        """The first fault of cycles, places, the beginning and boths, or None."""
        if has_bare_cycle(self.code):
            return ("cycle", 0)
        shapes = {}
        for block in sorted(self.code_map):
            place = self.code[3][block][0]
            layers = self.texts.located(self.function_name, place)
            if layers is None:
                return ("place", block)
            point = Point(self.nodes, block, place, self.code_map[block], layers)
            shape = tuple([(label, SLOT if isinstance(number, tuple) else number) for label, number in place])
            if shape in shapes or not self.stands_right(point):
                return ("place", block)
            shapes[shape] = True
            self.points[block] = point
            self.stops[point.parts] = True
            for loop, number, _ in point.rounds():
                if not isinstance(number, tuple):
                    self.round_numbers.setdefault(loop, {})[number] = True
        if not self.begins_right():
            return ("entry", 0)
        return self.fault_of_boths()

    def stands_right(self, point):
        """Whether a point stands at a statement of its sort, and its row of the map tells of what is in force there.

        A recipe that names the task is not accepted, as it is asked for values without the name of a task.
        """
        word, step, end = point.step().word, point.step(), self.end_of(point)[0]
        waits = word in ("outer", "call", "both", "mark")
        if waits != (end in WAITING_WORDS) or waits and TEXT_WORDS.get(step.statement[0], step.statement[0]) != end:
            return False
        facts = Facts(self.nodes)
        for meaning in point.meanings:
            if meaning is not None and built(facts, meaning, point.unknown_table) is None:
                return False
        for variable, recipe in point.recipes.items():
            if recipe is not None and (variable not in point.unknown_table or names_task(recipe)):
                return False
        return all([self.tells_round(point, number, unknown) for _, number, unknown in point.rounds()])

    def tells_round(self, point, number, unknown):
        """Whether a slot in a place has the round as its meaning, or an integer without it."""
        if not isinstance(number, tuple):
            return True
        meaning = point.meanings[number[1]]
        if meaning is None or meaning == unknown:
            return meaning is not None
        found = built(Facts(self.nodes), meaning, point.unknown_table)
        return unknown not in unknowns_in(meaning) and self.nodes.kind_list[found] == "int"

    def begins_right(self):
        """Whether slots and recipes at block 0 are those of the beginning."""
        if 0 not in self.points:
            return False
        point = self.points[0]
        params = point.layers[-1].graph.params
        facts = Facts(self.nodes)
        for slot, meaning in enumerate(point.meanings):
            if meaning is None:
                continue
            if slot >= len(params):
                return False
            wanted = point.unknown_table[VARIABLE, (), params[slot][0]]
            if built(facts, meaning, point.unknown_table) != wanted:
                return False
        table = point.known_table()
        slots = {}
        for slot, meaning in enumerate(point.meanings):
            if meaning is not None:
                slots[SLOT, slot] = built(facts, meaning, table)
        recipes = [(variable, recipe) for variable, recipe in point.recipes.items() if recipe is not None]
        return all([built(facts, recipe, slots) == table[variable] for variable, recipe in recipes])

    def round_fits(self, point, path):
        """Whether a path of the text may end at a point: a slot for a round stands for none that has a number."""
        for loop, number, unknown in point.rounds():
            if isinstance(number, tuple) and path.table[unknown] != point.unknown_table[unknown]:
                for one in self.round_numbers.get(loop, ()):
                    rest = self.nodes.added(path.table[unknown], self.nodes.integer(one), -1)
                    if self.nodes.nought(rest) != FALSE:
                        return False
        return True

    def fault_of_boths(self):
        """Gathers what must hold at the ends of the bodies of all boths; the first fault, or None."""
        ways = [targets(block[2]) for block in self.code[3]]
        over = [inner_targets(block[2]) for block in self.code[3]]
        reached = region_of(ways, 0)
        found = []
        for block in self.points:
            if block in reached and self.code[3][block][2][0] == "both":
                found.append((len(self.code[3][block][0]), block))
        for _, block in sorted(found):
            both = Both(self.points[block], self.code[3][block][2])
            both.regions = [region_of(over, both.ending[1]), region_of(over, both.ending[2])]
            demands = self.demands_behind(both)
            if demands is None or not all([both.add_demand(demand) for demand in demands]):
                return ("both", block)
            self.boths.append(both)
        return None

    def contexts_of(self, block):
        """The list of (both, body) in which a block stands."""
        found = [(both, number) for both in self.boths for number in range(2)]
        return [(both, number) for both, number in found if block in both.regions[number]]

    def demands_behind(self, both):
        """What must hold behind a both, also at its errors; None if they lead elsewhere than in the text."""
        point = both.point
        behind = self.points[both.ending[5]]
        blocks = {name: block for name, block in both.ending[6]}
        demands = self.demands_of(both, behind)
        gets_out = False
        for error in point.layers[-1].graph.errors_of(point.step()):
            place = self.handler_parts(point.layers, error)
            block = blocks.pop(error, None)
            if (place is None) != (block is None) or block is not None and self.points[block].parts != place:
                return None
            if block is not None and demands is not None:
                further = self.demands_of(both, self.points[block])
                demands = None if further is None else [*demands, *further]
            gets_out = gets_out or block is None
        if blocks or demands is None:
            return None
        if gets_out:
            for outer, number in self.contexts_of(point.block):
                demands = [*demands, *outer.demands[number]]
        return demands

    def demands_of(self, both, behind):
        """What must hold at one of the blocks behind a both, None if a round has a number that it must not have."""
        source, _ = both.point.beginning()
        return demands_at(behind) if self.round_fits(behind, source) else None

    def handler_parts(self, layers, error):
        """The position of the handler of an error that a both raises, None if it has none here."""
        for layer in reversed(layers):
            step = layer.current_step()
            handler = layer.graph.handler_of(step, error)
            if handler is not None:
                return layer.moved_to(handler).whole_parts()
            if step.outside is not None:
                return None
        return None


def has_bare_cycle(code):
    """Whether there is a cycle of blocks without a point."""
    bare = [block for block, row in enumerate(code[3]) if row[0] is None]
    count = {block: 0 for block in bare}
    for block in bare:
        for target in targets(code[3][block][2]):
            if target in count:
                count[target] += 1
    free = [block for block in bare if count[block] == 0]
    done = 0
    while free:
        done += 1
        for target in targets(code[3][free.pop()][2]):
            if target in count:
                count[target] -= 1
                if count[target] == 0:
                    free.append(target)
    return done < len(bare)
