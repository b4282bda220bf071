"""What a debugger tells: history, what code shows, what if, and influences."""

from heldover.errors import InvalidAnswer, InvalidFrame, UnknownName, UnknownStep
from heldover.frames import check_maps, is_frame
from heldover.indexes import is_index
from heldover.runs import Run
from heldover.showing import Showing
from heldover.stories import is_message, same

CHANGEABLE_WORDS = ("ask", "receive")


def history(run):
    """The list of (index, question, answer, moment) for each entry that the run has come to."""
    story = run.story()
    found = sorted([(len(run.way(index)), index) for index in run.come_to()])
    return [(index, *story[index]) for _, index in found]


def shown(version, codes, maps, epoch, frame):
    """A dict from the indexes at which branches wait to the lists of (function, label, values) that a frame shows."""
    check_maps(codes, maps)
    if not is_frame(codes, frame):
        raise InvalidFrame(frame)
    showing = Showing(version, codes, maps)
    showing.show_branch(frame[0], frame[1], (epoch,), [])
    return showing.found


def fits_question(version, question, answer):
    """Whether a value of any kind is an answer to an ask or a receive in a version."""
    kinds = version.kinds()
    if question[0] == "ask":
        return kinds.is_value(version.door(question[1])[1], answer)
    return is_message(answer) and kinds.is_value(version.key(question[1]), answer[1])


def what_if(run, index, answer):
    """The changed run, and the sorted list of the indexes that were left out."""
    story = run.story()
    entry = story[index] if is_index(index) and index in run.come_to() else None
    if entry is None or entry[0][0] not in CHANGEABLE_WORDS or entry[1] is None:
        raise UnknownStep(index)
    if not fits_question(run.version, entry[0], answer):
        raise InvalidAnswer(answer)
    story[index] = (entry[0], answer, entry[2])
    left_out = []
    while True:
        changed = Run(run.version, run.name, run.epoch, run.start, story)
        wrong = sorted(set([*changed.differences(), *changed.missed()]))
        if not wrong:
            return changed, sorted(left_out)
        left_out.extend(wrong)
        story = {one: story[one] for one in story if one not in wrong}


def value_at(run, index, variable):
    """The value of a variable in the innermost frame at a step, None if the run has no such step."""
    try:
        return run.frames(index)[-1][2][variable]
    except UnknownStep:
        return None


def listed_choices(choices):
    """The list of the choices (index, answer), sorted by index; keys that are no indexes stand last."""
    steps = sorted([index for index in choices if is_index(index)])
    others = [index for index in choices if not is_index(index)]
    return [(index, answer) for index in [*steps, *others] for answer in choices[index]]


def influences(run, index, variable, choices):
    """The list of the choices (index, answer) that influence a variable at a step."""
    values = run.frames(index)[-1][2]
    if not isinstance(variable, str) or variable not in values:
        raise UnknownName(variable)
    found = []
    for at, answer in listed_choices(choices):
        changed, _ = what_if(run, at, answer)
        if not same(values[variable], value_at(changed, index, variable)):
            found.append((at, answer))
    return found
