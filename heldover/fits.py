"""Whether a task of one version fits another one."""

from heldover.runs import Run, is_start
from heldover.states import has_alike_answer
from heldover.stories import entries


def unlike_doors(old, new, story):
    """The indexes of the open asks whose doors have no alike kinds of answers in two versions, ascending."""
    asks = [(index, entry[0][1]) for index, entry in entries(story) if entry[1] is None]
    return [index for index, door in asks if not has_alike_answer(old, new, door)]


def misfit_at(run, story, index):
    """The misfit of a task at an index at which its run has a difference, or the answers of a door are not alike."""
    was = story[index][0]
    problem, now = run.differences().get(index, ("door", was))
    return ("question", index, was, now) if problem == "question" else (problem, index, was)


def misfit(old, new, task):
    """None if a task of an old version fits a new one, otherwise why it does not."""
    name, epoch, start, story = task
    # The task must be one of the old version: this run raises the errors of those that are not.
    Run(old, name, epoch, start, story)
    if not is_start(new, start):
        return ("start",)
    run = Run(new, name, epoch, start, story)
    found = [*run.differences(), *unlike_doors(old, new, story)]
    if found:
        return misfit_at(run, story, min(found))
    missed = run.missed()
    return ("ahead", missed[0], tuple(sorted(run.waits()))) if missed else None
