"""Holds codes and maps against plain runs: what [38], [39] and [47] promise of right ones."""

from heldover.errors import NoPoint, Stuck
from heldover.execution import Execution
from heldover.frames import is_right_frame, values_in
from heldover.runs import Run
from heldover.stories import same
from tests.programs import random_entry


def stories(version, start, chance, count, wrong=0.03, longest=12):
    """Stories that grow along the run, each with all its beginnings."""
    for _ in range(count):
        story = {}
        for moment in range(longest):
            yield dict(story)
            waits = Run(version, "ann", 0, start, story).waits()
            waits = {index: question for index, question in waits.items() if index not in story}
            if not waits:
                break
            for index in sorted(waits):
                if chance.random() < 0.5:
                    story[index] = random_entry(version, chance, waits[index], index, moment, wrong)


def wrong_values(codes, maps, name, branch, node):
    """The first variable of which a recipe tells another value than the tree has, or None."""
    slots, block, inner = branch
    place, path, parts, values = codes[name][3][block][0], (), (), {}
    while True:
        parts += node[0]
        values.update({("var", path, variable): value for variable, value in node[1].items()})
        if len(parts) == len(place):
            break
        path, node = (*path, node[0][-1][0]), node[2][1]
    recipes = maps[name][block][1]
    for variable, value in values_in(codes[name], maps[name], block, slots).items():
        if recipes[variable] is not None and (variable not in values or value is None or not same(value, values[variable])):
            return variable
    if inner is None:
        return None
    if isinstance(inner[0], str):
        return wrong_values(codes, maps, inner[0], inner[1], node[2][1])
    for body, further in zip(inner, node[2]):
        found = None if body[0] == "ended" else wrong_values(codes, maps, name, body, further)
        if found is not None:
            return found
    return None


def wrong_with(version, codes, maps, start, story):
    """What is wrong of codes and maps with a story, or None."""
    run = Run(version, "ann", 0, start, story)
    try:
        done = Execution(version, codes, "ann", 0, start, story)
    except Stuck as error:
        return ("stuck", error.name, error.block)
    if (done.waits(), done.differences(), done.end()) != (run.waits(), run.differences(), run.end()):
        return "execution"
    if (done.come_to(), done.passed()) != (run.come_to(), run.passed()):
        return "entries"
    if run.tree() is None:
        return None
    try:
        if not is_right_frame(codes, maps, run, done.frame()):
            return "frame"
    except NoPoint:
        return "point"
    name, branch = done.frame()
    return wrong_values(codes, maps, name, branch, run.tree()[1])


def first_wrong(version, codes, maps, start, told):
    """What is wrong with the first of these stories with which something is, or None."""
    for story in told:
        found = wrong_with(version, codes, maps, start, story)
        if found is not None:
            return found, story
    return None
