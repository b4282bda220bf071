"""heldover.tasks: tasks, and the names of children."""

import unittest

from heldover.errors import InvalidIndex
from heldover.tasks import Task, child_name
from tests.anything import ODD

STORY = {(0, ("a", 0)): (("sleep", 1), True, 0)}


class TaskTest(unittest.TestCase):
    def test_attributes(self):
        task = Task("ann", 1, 0, ("pay", (3,), 5), STORY)
        self.assertEqual((task.name, task.version, task.epoch, task.start), ("ann", 1, 0, ("pay", (3,), 5)))
        self.assertEqual((task.story(), task.end(), repr(task)), (STORY, None, "Task('ann', 0)"))
        over = Task("bob", None, None, None, {}, ("result", 8))
        self.assertEqual((over.version, over.epoch, over.start, over.story(), over.end()), (None, None, None, {}, ("result", 8)))
        self.assertEqual(repr(over), "Task('bob', None)")
        self.assertEqual(Task(name="bob", version=None, epoch=None, start=None, story={}, end=("result", 8)), over)

    def test_stories_are_copies(self):
        story = dict(STORY)
        task = Task("ann", 1, 0, ("pay", (3,), 5), story)
        story.clear()
        task.story().clear()
        self.assertEqual(task.story(), STORY)

    def test_equality(self):
        def task(name="ann", version=1, epoch=0, start=("pay", (3,), 5), story=None, end=None):
            return Task(name, version, epoch, start, STORY if story is None else story, end)
        self.assertTrue(task() == task())
        self.assertFalse(task() != task())
        for other in (task(name="bob"), task(version=0), task(epoch=1), task(start=("pay", (4,), 5)), task(story={}),
                      task(start=("pay", (True,), 5)), task(version=True), task(end=("result", 1)),
                      task(story={(0, ("a", 0)): (("sleep", 1), True, 1)})):
            self.assertFalse(task() == other)
        self.assertFalse(task(end=("result", 1)) == task(end=("result", True)))
        for odd in (None, 1, "ann", ("ann", 0), {}):
            self.assertFalse(task() == odd)

    def test_child_names(self):
        self.assertEqual(child_name("ann", (0, ("a", 0))), "ann/0/a.0")
        self.assertEqual(child_name(name="ann/0/a.0", index=(12, ("c", 0), ("round", 2), ("a", 0))), "ann/0/a.0/12/c.0/round.2/a.0")
        for odd in (*ODD, (0,), (0, ("a", 10)), [0, ("a", 0)], (True, ("a", 0))):
            with self.assertRaises(InvalidIndex) as caught:
                child_name("ann", odd)
            self.assertIs(caught.exception.value, odd)
