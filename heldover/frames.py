"""Frames of codes, maps of codes, and what the one says by the other."""

from heldover.codes import MOST_SLOTS, WAITING_WORDS, is_below, is_code, is_codes
from heldover.errors import InvalidCode, InvalidCodes, InvalidMap, InvalidTerm, NoFrame, NoPoint
from heldover.standing import Standpoint, taken_meaning
from heldover.stories import is_datum, strictly_equal
from heldover.termforms import (
    MAP_LEVELS, MAP_SUBTERMS, SLOT, count_subterms, is_map_term, is_round, is_slot, is_variable, recipe_values,
    value_in,
)
from heldover.values import is_name

DEEPEST_FRAME = 60


def is_content(value):
    """Whether it is what a slot may hold: a datum, or None for nothing."""
    return value is None or is_datum(value)


def are_contents(value, count):
    """Whether it is a tuple of what so many slots hold."""
    return isinstance(value, tuple) and len(value) == count and all([is_content(one) for one in value])


def is_error(value):
    """Whether it is the name of an error, or None."""
    return value is None or is_name(value)


def is_call_frame(codes, value, room):
    """Whether it is a FRAME, with so many frames and bodies at most within each other in it."""
    if not isinstance(value, tuple) or len(value) != 2 or not is_name(value[0]) or value[0] not in codes:
        return False
    return is_branch(codes, codes[value[0]], value[1], room)


def is_branch(codes, code, value, room):
    """Whether it is a BRANCH in this code."""
    if not isinstance(value, tuple) or len(value) != 3 or not are_contents(value[0], code[2]):
        return False
    slots, block, inner = value
    if not is_below(block, len(code[3])):
        return False
    end = code[3][block][2]
    if end[0] == "call":
        return room > 0 and is_call_frame(codes, inner, room - 1) and inner[0] == end[2]
    if end[0] == "both":
        return room > 0 and are_bodies(codes, code, inner, room - 1)
    return end[0] in WAITING_WORDS and inner is None


def are_bodies(codes, code, value, room):
    """Whether it is a tuple (BODY, BODY), not both of which have ended."""
    if not isinstance(value, tuple) or len(value) != 2:
        return False
    if is_ended(value[0], code) and is_ended(value[1], code):
        return False
    return all([is_ended(body, code) or is_branch(codes, code, body, room) for body in value])


def is_ended(value, code):
    """Whether it is a BODY that has ended."""
    if not isinstance(value, tuple) or len(value) != 3 or not isinstance(value[0], str) or value[0] != "ended":
        return False
    return are_contents(value[1], code[2]) and is_error(value[2])


def is_frame(codes, value):
    """Whether it is a frame of the codes."""
    if not is_codes(codes):
        raise InvalidCodes(None)
    return is_call_frame(codes, value, DEEPEST_FRAME)


def is_meaning_unknown(value):
    """Whether it is an unknown that may stand in a meaning."""
    return is_variable(value) or is_round(value)


def is_meaning(value):
    """Whether it is a meaning: a term over variables and rounds, or None."""
    return value is None or count_subterms(value, MAP_LEVELS, MAP_SUBTERMS, is_meaning_unknown) is not None


def is_recipe(value, slots):
    """Whether it is a recipe: a term over so many slots, or None."""
    if value is None:
        return True
    if count_subterms(value, MAP_LEVELS, MAP_SUBTERMS, is_slot) is None:
        return False
    return slots >= MOST_SLOTS or reads_below(value, slots)


def reads_below(term, slots):
    """Whether a term over slots names only the first ones, so many."""
    if term[0] == SLOT:
        return term[1] < slots
    return term[0] == "value" or all([reads_below(part, slots) for part in term[1:] if isinstance(part, tuple)])


def is_row(value, slots):
    """Whether it is a row of a map: (meanings, recipes)."""
    if not isinstance(value, tuple) or len(value) != 2:
        return False
    meanings, recipes = value
    if not isinstance(meanings, tuple) or len(meanings) != slots or not isinstance(recipes, dict):
        return False
    if not all([is_meaning(meaning) for meaning in meanings]):
        return False
    return all([is_variable(variable) and is_recipe(recipe, slots) for variable, recipe in recipes.items()])


def is_map(code, value):
    """Whether it is a map of the code."""
    if not is_code(code):
        raise InvalidCode(code)
    return has_map_form(code, value)


def has_map_form(code, value):
    """Whether it is a map of what is known to be a code."""
    if not isinstance(value, dict) or len(value) != len([row for row in code[3] if row[0] is not None]):
        return False
    blocks = len(code[3])
    for block, row in value.items():
        if not is_below(block, blocks) or code[3][block][0] is None or not is_row(row, code[2]):
            return False
    return True


def term_value(term, values, *, task=""):
    """The value of a term, for a dict from unknowns to data, or None."""
    if not is_map_term(term):
        raise InvalidTerm(term)
    return value_in(term, values, task)


def check_maps(codes, maps):
    """Raises the errors of codes, and of maps that are not those of the codes."""
    if not is_codes(codes):
        raise InvalidCodes(None)
    if not isinstance(maps, dict):
        raise InvalidMap(maps)
    for name, code in codes.items():
        if name not in maps or not has_map_form(code, maps[name]):
            raise InvalidMap(maps)


def frame_of(codes, maps, run):
    """The frame that codes and maps make of a run."""
    check_maps(codes, maps)
    tree = run.tree()
    if tree is None:
        raise NoFrame()
    return Standpoint(codes, maps, run).frame_at(tree)


def is_right_frame(codes, maps, run, frame):
    """Whether the frame is the one that codes and maps make of the run, slots without a meaning left out."""
    made = frame_of(codes, maps, run)
    return is_call_frame(codes, frame, DEEPEST_FRAME) and is_like(codes, maps, made, frame)


def is_like(codes, maps, made, frame):
    """Whether two frames are equal, slots without a meaning left out."""
    if made[0] != frame[0]:
        return False
    return is_like_branch(codes, maps, made[0], made[1], frame[1])


def is_like_branch(codes, maps, name, made, branch):
    """Whether two branches in the code of this name are equal, slots without a meaning left out."""
    if branch[0] == "ended" or made[1] != branch[1]:
        return False
    slots, block, inner = made
    meanings = maps[name][block][0]
    if not are_like_slots(slots, branch[0], [slot for slot, meaning in enumerate(meanings) if meaning is not None]):
        return False
    end = codes[name][3][block][2]
    if end[0] == "call":
        return is_like(codes, maps, inner, branch[2])
    if end[0] != "both":
        return True
    for number, (one, other) in enumerate(zip(inner, branch[2])):
        if one[0] == "ended":
            told = [slot for slot in end[3 + number] if taken_meaning(maps[name], end, slot) is not None]
            if other[0] != "ended" or one[2] != other[2] or not are_like_slots(one[1], other[1], told):
                return False
        elif not is_like_branch(codes, maps, name, one, other):
            return False
    return True


def are_like_slots(one, other, slots):
    """Whether these slots hold the same."""
    return all([strictly_equal(one[slot], other[slot]) for slot in slots])


def values_in(code, code_map, point, slots):
    """A dict from the variables that have recipes at the point to their values, or None."""
    if not is_map(code, code_map):
        raise InvalidMap(code_map)
    if not is_below(point, len(code[3])) or point not in code_map:
        raise NoPoint(point)
    return recipe_values(code_map[point][1], slots)
