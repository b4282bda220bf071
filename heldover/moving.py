"""Which tasks of a population can move to a version together, and why others cannot."""

from heldover.errors import NotFound, UnknownName
from heldover.fits import misfit
from heldover.stories import strictly_equal
from heldover.talk import may_still, newcomers

NEWCOMERS = ""


def is_changed(old, new, key):
    """Whether two versions have a key, with kinds that are not alike."""
    if not has_key(old, key) or not has_key(new, key):
        return False
    return not old.kinds().alike(old.key(key), new.key(key), kinds=new.kinds())


def has_key(version, key):
    """Whether a version has a key."""
    try:
        version.key(key)
    except UnknownName:
        return False
    return True


def talking_pairs(ours, theirs):
    """The list of (key, one, other) for the sends and receives of two lists that go together."""
    found = []
    for one in ours:
        for other in theirs:
            if one[1] == other[1] and one[0] != other[0]:
                found.append((one[1], one, other))
    return found


class Asked:
    """Tasks of a population that are asked to move to a version, while messages are unread."""

    def __init__(self, population, unread, new, names):
        self.task_table = population
        self.unread_messages = unread
        self.new = new
        self.asked_names = sorted(set(names))
        for name in self.asked_names:
            if name not in population:
                raise NotFound(name)
        self.staying = {}
        self.moving = {NEWCOMERS: newcomers(new)}
        self.obstacles = {name: self._obstacle(name) for name in self.asked_names}

    def staying_list(self, name):
        """What a task may still do in its own version."""
        if name not in self.staying:
            version, task = self.task_table[name]
            self.staying[name] = may_still(version, task)
        return self.staying[name]

    def moving_list(self, name):
        """What a task that fits, or what newcomers, may still do in the new version."""
        if name not in self.moving:
            self.moving[name] = may_still(self.new, self.task_table[name][1])
        return self.moving[name]

    def _obstacle(self, name):
        """The reason of an asked task by itself: its misfit, or the message that holds it; otherwise None."""
        version, task = self.task_table[name]
        found = misfit(version, self.new, task)
        if found is not None:
            return ("misfit", found)
        message = self.holding(name)
        return None if message is None else ("held", message[0])

    def holding(self, name):
        """The first message that holds a task that fits, or None."""
        keys = [key for word, key, _, _ in self.moving_list(name) if word == "receive"]
        for message in self.unread_messages:
            _, receiver, key, value = message
            if receiver == name and key in keys and not self.new.kinds().is_value(self.new.key(key), value):
                return message
        return None

    def is_free(self, name):
        """Whether a task is asked, fits and is not held."""
        return name in self.obstacles and self.obstacles[name] is None

    def statement_pairs(self, name, key, other):
        """The sorted list of the pairs of statements by which a task as moved and one as staying talk."""
        if not is_changed(self.task_table[other][0], self.new, key):
            return []
        pairs = talking_pairs(self.moving_list(name), self.staying_list(other))
        return sorted([(one, two) for under, one, two in pairs if under == key])

    def links(self, name):
        """The sorted list of (key, task) with which a task as moved, or newcomers, talk under a changed key."""
        keys = sorted(set([statement[1] for statement in self.moving_list(name)]))
        found = []
        for key in keys:
            found.extend([(key, other) for other in sorted(self.task_table) if self.statement_pairs(name, key, other)])
        return found

    def distances(self):
        """For each task that cannot move the least number of links that tell why."""
        found = {name: 0 for name in self.task_table if not self.is_free(name)}
        links = {name: self.links(name) for name in self.asked_names if self.is_free(name)}
        count = 0
        while True:
            count += 1
            nearer = [name for name in links if name not in found and any([one in found for _, one in links[name]])]
            if not nearer:
                return found
            found.update({name: count for name in nearer})

    def chain(self, name, distances):
        """The shortest links that tell why a task cannot move, the first in sorted order; None if there are none."""
        far = [(distances[other], key, other) for key, other in self.links(name) if other in distances]
        if not far:
            return None
        count, key, other = min(far)
        further = () if count == 0 else self.chain(other, distances)
        return ((key, other), *further)

    def greatest_set(self):
        """The sorted list of the tasks of the greatest set that can move, and the reasons of the other asked ones."""
        distances = self.distances()
        reasons = {}
        for name in self.asked_names:
            if self.obstacles[name] is not None:
                reasons[name] = self.obstacles[name]
            elif name in distances:
                reasons[name] = ("chain", self.chain(name, distances))
        links = self.chain(NEWCOMERS, distances)
        if links is not None:
            reasons[NEWCOMERS] = ("chain", links)
            return [], reasons
        return [name for name in self.asked_names if name not in distances], reasons

    def can_move_together(self):
        """Whether the set of the asked tasks can move."""
        if not all([self.is_free(name) for name in self.asked_names]):
            return False
        return not any([other not in self.obstacles for name in self.asked_names for _, other in self.links(name)])

    def is_chain(self, name, links):
        """Whether a value of any kind is a tuple of links that tell why a free task, or newcomers, cannot move."""
        if not isinstance(links, tuple) or not links:
            return False
        last = len(links) - 1
        for place, link in enumerate(links):
            if not isinstance(link, tuple) or len(link) != 2 or not all([isinstance(item, str) for item in link]):
                return False
            key, other = link
            if other not in self.task_table or self.is_free(other) != (place < last):
                return False
            if not self.statement_pairs(name, key, other):
                return False
            name = other
        return True

    def is_reason_of(self, name, value):
        """Whether a value of any kind is a reason of an asked task, or of newcomers."""
        if name != NEWCOMERS and self.obstacles[name] is not None:
            return strictly_equal(self.obstacles[name], value)
        if not isinstance(value, tuple) or len(value) != 2 or not isinstance(value[0], str) or value[0] != "chain":
            return False
        return self.is_chain(name, value[1])
