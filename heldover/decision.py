"""The exact decision: whether every story that a task can have at rest fits another version."""

from heldover.errors import InvalidArguments, NotFinite, TooMany, UnknownName
from heldover.finite import finite_table, infinite_function
from heldover.fits import misfit
from heldover.runs import Run, is_start
from heldover.stories import entries
from heldover.tasks import child_name

MOST_STORIES = 2000


def settling_entry(run, index, question):
    """The entry by which a wait is settled; None if the story is at rest there."""
    word = question[0]
    if word in ("receive", "sleep"):
        return None
    if word == "ask":
        return None if index in run.story() else (question, None, None)
    return (question, child_name(run.name, index) if word == "start" else True, run.moment(index))


def settled(version, task):
    """The task, settled."""
    name, epoch, start, story = task
    run = Run(version, name, epoch, start, story)
    while True:
        waits = run.waits()
        found = {index: settling_entry(run, index, waits[index]) for index in waits}
        further = {index: found[index] for index in found if found[index] is not None}
        story = run.story()
        if not further:
            return (name, epoch, start, story)
        story.update(further)
        run = Run(version, name, epoch, start, story)


def values_of(version, kind):
    """The list of the values of a finite kind, in their order."""
    kinds = version.kinds()
    if not kinds.is_kind(kind):
        raise UnknownName(kind)
    found = finite_table(kinds)[kind]
    if found is None:
        raise NotFinite(kind)
    return found


def answers_at(run, index, question):
    """The list of (answer, moment) that may come to a wait of a story at rest."""
    word, moment = question[0], run.moment(index)
    if word == "ask":
        return [(value, moment) for value in values_of(run.version, run.version.door(question[1])[1])]
    if word == "receive":
        values = values_of(run.version, run.version.key(question[1]))
        return [((("", index), value), moment) for value in values]
    return [(True, moment + question[1])]


def stories_behind(version, task):
    """The list of the stories that come from one at rest by one answer."""
    name, epoch, start, story = task
    run = Run(version, name, epoch, start, story)
    waits = run.waits()
    found = []
    for index in sorted(waits):
        for answer, moment in answers_at(run, index, waits[index]):
            further = run.story()
            further[index] = (waits[index], answer, moment)
            found.append(settled(version, (name, epoch, start, further))[3])
    return found


def story_key(story):
    """A string that is the same for stories that are the same alone."""
    return repr([(index, entry) for index, entry in entries(story)])


def check_decision(old, function, operands):
    """Raises the errors of the decision."""
    if function not in old:
        raise UnknownName(function)
    if not is_start(old, (function, operands, 0)):
        raise InvalidArguments(function)
    name = infinite_function(old, function)
    if name is not None:
        raise NotFinite(name)


def decide(old, new, function, args=()):
    """("fits", count) if every story at rest fits, otherwise ("story", story, misfit) for the first that does not."""
    check_decision(old, function, args)
    start = (function, args, 0)
    stories = [settled(old, ("", 0, start, {}))[3]]
    seen = {story_key(stories[0]): True}
    count = 0
    while count < len(stories):
        if count == MOST_STORIES:
            raise TooMany("stories")
        task = ("", 0, start, stories[count])
        found = misfit(old, new, task)
        if found is not None:
            return ("story", stories[count], found)
        for story in stories_behind(old, task):
            key = story_key(story)
            if key not in seen:
                seen[key] = True
                stories.append(story)
        count += 1
    return ("fits", count)
