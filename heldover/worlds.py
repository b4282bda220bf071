"""Worlds: two that are alike but for one thing, and how they part because of it."""

from heldover.errors import (
    InvalidAnswer, InvalidChoices, InvalidCount, InvalidLog, InvalidSide, InvalidStory, NotFound, UnknownName,
)
from heldover.decision import story_key
from heldover.moving import Asked, has_key
from heldover.recordforms import is_record
from heldover.records import good_records
from heldover.replaying import replayed
from heldover.runs import is_start
from heldover.sides import epoch_of_side, is_side, is_stuck, parting_between, shown_by, task_of_side
from heldover.stories import entries, is_moment, is_story, strictly_equal
from heldover.tasks import child_name
from heldover.unlike import KEPT, parted
from heldover.values import is_integer


def check_side(side):
    """Raises the error of a value that is no side."""
    if not is_side(side):
        raise InvalidSide(side)


def check_story(side, story):
    """Raises the error of a value that is no story of the epoch of a side."""
    if not is_story(epoch_of_side(side), story):
        raise InvalidStory(story)


def shows(side, story):
    """What a side shows with a story: (waits, differences, end) or ("stuck", function, block)."""
    check_side(side)
    check_story(side, story)
    return shown_by(side, story)


def parting(one, other, story):
    """None, or (place, what one has, what the other one has) if two sides part with a story."""
    for side in (one, other):
        check_side(side)
    for side in (one, other):
        check_story(side, story)
    return parting_between(shown_by(one, story), shown_by(other, story))


def kind_under(version, name):
    """The kind of the answers of a door, or of a key, of a version; None if it has neither."""
    try:
        return version.door(name)[1]
    except UnknownName:
        return version.key(name) if has_key(version, name) else None


def are_choices_under(versions, name, values):
    """Whether a version has a door or a key with this name, and each that has one has these values for it."""
    kinds = [(version.kinds(), kind_under(version, name)) for version in versions]
    kinds = [(table, kind) for table, kind in kinds if kind is not None]
    return bool(kinds) and all([table.is_value(kind, value) for table, kind in kinds for value in values])


def check_choices(versions, choices):
    """Raises the error of a value that is no choices."""
    if not isinstance(choices, dict) or not all([isinstance(name, str) for name in choices]):
        raise InvalidChoices(None)
    for name in sorted(choices):
        values = choices[name]
        if not isinstance(values, (list, tuple)) or not are_choices_under(versions, name, values):
            raise InvalidChoices(name)


def chosen_answers(task, index, question, choices):
    """The list of the answers that choices have for a wait of a task."""
    word = question[0]
    if word == "ask":
        return list(choices.get(question[1], ()))
    if word == "receive":
        return [(("", index), value) for value in choices.get(question[1], ())]
    return [child_name(task, index)] if word == "start" else [True]


def further_stories(task, shown, story, choices):
    """The list of the stories with one answer more to what two sides show."""
    if is_stuck(shown):
        return []
    waits = shown[0]
    moment = max([entry[2] for _, entry in entries(story) if entry[2] is not None], default=0)
    found = []
    for index in sorted(waits):
        for answer in chosen_answers(task, index, waits[index], choices):
            further = {one: story[one] for one in story}
            further[index] = (waits[index], answer, moment)
            found.append(further)
    return found


def first_parting(one, other, choices, *, story=None, most=500):
    """None, or (story, parting): the first story, among so many, with which two sides part."""
    for side in (one, other):
        check_side(side)
    check_choices((one[1], other[1]), choices)
    told = {} if story is None else story
    for side in (one, other):
        check_story(side, told)
    if not is_moment(most):
        raise InvalidCount(most)
    stories = [{index: entry for index, entry in entries(told)}]
    seen = {story_key(told): True}
    count = 0
    while count < min(most, len(stories)):
        last = stories[count]
        count += 1
        shown = shown_by(one, last)
        found = parting_between(shown, shown_by(other, last))
        if found is not None:
            return (last, found)
        for further in further_stories(task_of_side(one), shown, last, choices):
            key = story_key(further)
            if key not in seen:
                seen[key] = True
                stories.append(further)
    return None


def next_of(kinds, kind, value):
    """The next value of a value of a kind, or None."""
    if kind == "int":
        return value + 1
    if kind == "bool":
        return not value
    if kind == "task":
        return "" if value else "a"
    zero, variants = kinds.zero(kind), kinds.variants(kind)
    if value != zero:
        return zero
    if len(variants) > 1:
        tag, fields = variants[1]
        return (tag, *[kinds.zero(field) for field in fields])
    fields = variants[0][1]
    places = list(range(len(fields)))
    for place in reversed(places):
        further = next_of(kinds, fields[place], zero[place + 1])
        if further is not None:
            return (*zero[:place + 1], further, *zero[place + 2:])
    return None


def next_value(version, kind, value):
    """The next value of a value of a kind, or None."""
    kinds = version.kinds()
    if not kinds.is_kind(kind):
        raise UnknownName(kind)
    if not kinds.is_value(kind, value):
        raise InvalidAnswer(value)
    return next_of(kinds, kind, value)


def next_record(machine, record):
    """The record of an answer to an ask with the next value; None if it is another record, or there is none."""
    if record[0] != "answered" or record[3][0] != "ask":
        return None
    version = machine.run(record[1]).version
    value = next_of(version.kinds(), version.door(record[3][1])[1], record[4])
    return None if value is None else (*record[:4], value, record[5])


def records_to(versions, text, line):
    """The records of the good prefix up to a line of it."""
    records = good_records(text)
    replayed(versions, records)
    if not is_integer(line) or not 1 <= line <= len(records):
        raise InvalidCount(line)
    return records[:line]


def record_worlds(versions, text, line):
    """None if a record is idle, otherwise (other record or None, word, what)."""
    *before, record = records_to(versions, text, line)
    without, here = replayed(versions, before), replayed(versions, [*before, record])
    if without == here:
        return None
    other = next_record(without, record)
    if other is not None:
        found = parted(here, replayed(versions, [*before, other]))
        if found != KEPT:
            return (other, *found)
    return (None, *parted(here, without))


def machine_instead(versions, before, record, other):
    """The machine with another record, or None, in the place of a record; None if this is not possible."""
    if other is None:
        return replayed(versions, before)
    if not is_record(other) or strictly_equal(other, record):
        return None
    try:
        return replayed(versions, [*before, other])
    except InvalidLog:
        return None


def is_record_worlds(versions, text, line, value):
    """Whether a value of any kind is such a tuple for a record, with any other record that is possible there."""
    *before, record = records_to(versions, text, line)
    here = replayed(versions, [*before, record])
    if replayed(versions, before) == here or not isinstance(value, tuple) or len(value) != 3:
        return False
    other, word, what = value
    there = machine_instead(versions, before, record, other)
    if there is None or there == here:
        return False
    return strictly_equal(parted(here, there), (word, what))


def worlds_of_misfit(version, new, task):
    """The parting of the runs of a task under two versions, None if it cannot begin under the new one."""
    name, epoch, start, story = task
    if not is_start(new, start):
        return None
    return parting(("run", version, name, epoch, start), ("run", new, name, epoch, start), story)


def worlds_of_links(asked, name, links):
    """The links of a chain, each with the least pair of statements by which it talks."""
    found = []
    for key, other in links:
        one, two = asked.statement_pairs(name, key, other)[0]
        found.append((key, other, one, two))
        name = other
    return tuple(found)


def left_worlds(population, unread, new, names, name):
    """The worlds of a task that is left behind, or of newcomers."""
    asked = Asked(population, unread, new, names)
    reasons = asked.greatest_set()[1]
    if not isinstance(name, str) or name not in reasons:
        raise NotFound(name)
    word, told = reasons[name]
    if word == "chain":
        return (word, worlds_of_links(asked, name, told))
    version, task = population[name]
    if word == "misfit":
        return (word, worlds_of_misfit(version, new, task))
    _, _, key, value = asked.holding(name)
    return (word, version.key(key) if has_key(version, key) else None, new.key(key), value)
