"""The judge: whether a code and a map are right."""

from heldover.building import expressed
from heldover.codepaths import CodePath, code_paths, operand_node
from heldover.codes import WAITING_WORDS, is_code
from heldover.errors import InvalidCode, InvalidMap, UnknownName
from heldover.frames import is_map
from heldover.judging import Case
from heldover.sources import SourceWalk
from heldover.termforms import ANSWER
from heldover.transfers import Meeting, demands_at
from heldover.ways import operands_read

ANSWERED_WORDS = ("call", "ask", "receive", "start")


def asked_expressions(statement):
    """The expressions that a statement asks, in the order of the operands of its block."""
    word = statement[0]
    if word in ("call", "ask", "start"):
        return list(statement[4])
    if word == "send":
        return [statement[2], statement[4]]
    return [statement[2]] if word == "sleep" else []


def asked_name(statement):
    """The function, the door or the key of a statement, None if it has none."""
    return statement[3] if statement[0] in ("call", "ask", "start", "send", "receive") else None


def fault_of_question(case, point, beginning):
    """The fault of what is asked at a point, or None."""
    source, code = beginning
    end, statement = case.end_of(point), point.step().statement
    wanted = [expressed(source.facts, one, source.last().path, source.table) for one in asked_expressions(statement)]
    asked = [operand_node(case.nodes, code.slots, operand) for operand in operands_read(end)]
    name = end[2] if asked_name(statement) is not None else None
    if any([number is None for number in asked]):
        return ("undefined", point.block)
    return None if asked == wanted and name == asked_name(statement) else ("question", point.block)


def answer_kind(case, statement):
    """The kind of what a statement gets as its answer or result."""
    word = statement[0]
    if word == "ask":
        return case.version.door(statement[3])[1]
    if word == "receive":
        return case.version.key(statement[3])
    return "task" if word == "start" else case.version.signature(statement[3])[1]


class Way:
    """A way that begins at a point: a path of the text, a path of the code, and the bodies in which they are."""

    def __init__(self, beginning, contexts):
        source, code = beginning
        self.source = source.copied(source.facts)
        self.code = CodePath(code.block, list(code.slots), code.facts)
        self.contexts = contexts

    def to(self, step, block):
        """The way to a step of the text and to a block."""
        self.source.go_to(step)
        self.code.go_to(block)
        return self

    def begun_here(self):
        """The way that does what is at the point itself."""
        self.source.begin_here()
        self.code.begin_here()
        return self

    def give(self, name, slot, number):
        """Gives a variable and a slot, if it is not None, the answer."""
        self.source.give(name, number)
        if slot is not None:
            self.code.slots[slot] = number


def ways_from(case, point, beginning):
    """The list of the ways that begin at a point."""
    contexts = case.contexts_of(point.block)
    end, step = case.end_of(point), point.step()
    word = end[0]
    if word not in WAITING_WORDS:
        return [Way(beginning, contexts).begun_here()]
    if word == "mark":
        return [Way(beginning, contexts).to(step.targets[number], end[1 + number]) for number in range(2)]
    if word == "both":
        here = [both for both in case.boths if both.point.block == point.block][0]
        found = []
        for number in range(2):
            found.append(Way(beginning, [(here, number)]).to(step.targets[number], end[1 + number]))
        return found
    way = Way(beginning, contexts).to(step.targets[0], end[4] if word == "call" else end[-1])
    if word in ANSWERED_WORDS:
        number = case.nodes.unknown(ANSWER, answer_kind(case, step.statement))
        way.give(step.statement[2], end[1], number)
    return [way, *error_ways(case, point, beginning, contexts)]


def error_ways(case, point, beginning, contexts):
    """The ways of the errors, if a point is at a call."""
    found, end = [], case.end_of(point)
    if end[0] != "call":
        return found
    blocks = {name: block for name, block in end[5]}
    for error in point.layers[-1].graph.errors_of(point.step()):
        way = Way(beginning, contexts)
        SourceWalk(case.texts, case.nodes, case.stops).fail(way.source, error)
        if error in blocks:
            way.code.go_to(blocks[error])
        else:
            way.code.fail(error)
        found.append(way)
    return found


def fault_of_pair(case, source, code, contexts):
    """The word of the fault of a path of the text and a path of the code that may go together, or None."""
    facts = source.facts
    for number, truth in code.conditions:
        facts = facts.with_truth(number, truth)
    if facts.impossible:
        return None
    if code.ending[0] == "undefined":
        return "undefined"
    meeting = Meeting(facts, code.slots, source.table)
    if code.ending[0] == "point":
        return fault_at_end(case, source, case.points[code.ending[1]], meeting)
    if not are_equal_ends(meeting, source.ending, code.ending):
        return "path"
    if code.ending[0] in ("done", "raise"):
        for both, number in contexts:
            if not all([meeting.meets(demand) for demand in both.demands[number]]):
                return "both"
    return None


def fault_at_end(case, source, point, meeting):
    """The word of the fault of a path of the text, if the path of the code has ended at a point, or None."""
    if source.ending[0] != "point" or source.ending[1] != point.parts:
        return "path"
    for _, number, unknown in point.rounds():
        if isinstance(number, tuple) and point.meanings[number[1]] is None:
            return "undefined"
    if not case.round_fits(point, source):
        return "path"
    return None if all([meeting.meets(demand) for demand in demands_at(point)]) else "path"


def are_equal_ends(meeting, one, other):
    """Whether a path of the text and a path of the code end alike, other than at a point."""
    if one[0] != other[0] or len(one) != len(other):
        return False
    if one[0] == "return":
        return meeting.are_equal_nodes(one[1], other[1])
    if one[0] != "become":
        return one == other
    if one[1] != other[1] or len(one[2]) != len(other[2]):
        return False
    return all([meeting.are_equal_nodes(ours, theirs) for ours, theirs in zip(one[2], other[2])])


def fault_of_way(case, way):
    """The word of the fault of the paths of a way, or None."""
    sources = SourceWalk(case.texts, case.nodes, case.stops).paths(way.source)
    codes = code_paths(case.code, way.code)
    if sources is None or codes is None:
        return "many"
    for source in sources:
        for code in codes:
            word = fault_of_pair(case, source, code, way.contexts)
            if word is not None:
                return "many" if source.large or case.nodes.opaque else word
    return None


def fault_at(case, point):
    """The fault of the question and the paths at a point, or None."""
    beginning = point.beginning()
    fault = fault_of_question(case, point, beginning) if case.end_of(point)[0] in WAITING_WORDS else None
    if fault is not None:
        return fault
    for way in ways_from(case, point, beginning):
        word = fault_of_way(case, way)
        if word is not None:
            return (word, point.block)
    return None


def judge(version, function, code, code_map):
    """None if a code and a map of a function are right, otherwise a fault (word, block)."""
    if function not in version:
        raise UnknownName(function)
    if not is_code(code) or code[0] != function or code[1] != len(version.signature(function)[0]):
        raise InvalidCode(code)
    if not is_map(code, code_map):
        raise InvalidMap(code_map)
    case = Case(version, function, code, code_map)
    fault = case.fault_of_form()
    if fault is not None:
        return fault
    for block in case.reachable_points():
        fault = fault_at(case, case.points[block])
        if fault is not None:
            return fault
    return None
