"""heldover.fits: misfits, clause by clause."""

import unittest
from random import Random

from heldover.errors import InvalidEpoch, InvalidStart, InvalidStory, InvalidTask, InvalidVersion, NotClosed
from heldover.fits import misfit
from heldover.machine import Machine
from heldover.runs import Run
from heldover.tasks import Task
from heldover.versions import Version
from tests.anything import ODD
from tests.programs import random_start, random_version
from tests.samples import COLOR, DOORS, KEYS, function, module, version_of, version_with
from tests.watching import stories

HUE = ("hue", (("Red", ()), ("Mix", ("int", "task"))))
TURNED = ("color", (("Mix", ("int", "task")), ("Red", ())))


def at(label, *before):
    return (0, *before, (label, 0))


def price(n, answer=None, moment=0):
    return (("ask", "price", (n,)), answer, None if answer is None else moment)


def slept(minutes=1):
    return (("sleep", minutes), True, 0)


def ask(label="a", n=1):
    return ("ask", label, "x", "price", (n,))


def sleep(label="s", n=1):
    return ("sleep", label, n)


PICK = ("ask", "p", "c", "pick", ())


class MisfitTest(unittest.TestCase):
    def task(self, story, start=("run", (1,), 0)):
        return ("ann", 0, start, story)

    def test_the_example(self):
        doors = (("pay", (), "bool"), ("ship", (), "bool"))
        pay, ship = ("ask", "p", "x", "pay", ()), ("ask", "s", "x", "ship", ())
        old = Version([("shop", (), (), doors, (), (("run", (), (("x", "bool"),), "bool", (pay, ship)),))])
        new = Version([("shop", (), (), doors, (), (("run", (), (("x", "bool"),), "bool", (ship, pay)),))])
        self.assertEqual(misfit(old, new, ("ann", 0, ("run", (), 0), {(0, ("p", 0)): (("ask", "pay", ()), None, None)})),
                         ("ahead", (0, ("p", 0)), ((0, ("s", 0)),)))

    def test_a_task_fits_its_own_version(self):
        version = version_with(ask(), sleep(), PICK)
        for story in ({}, {at("a"): price(1)}, {at("a"): price(1, 5)}, {at("a"): price(1, 5), at("s"): slept()}):
            self.assertIsNone(misfit(old=version, new=version, task=self.task(story)))

    def test_start(self):
        old = version_with(ask())
        for new in (
            version_of(function("walk", ask())), version_of(function("run", ask(), params=(("n", "bool"),))), version_of(function("run", params=())),
            version_of(function("run", params=(("n", "int"), ("m", "int")), inner=())),
        ):
            # The start comes before everything else: the question would be another one, too.
            self.assertEqual(misfit(old, new, self.task({at("a"): price(1, 5)})), ("start",))
        other = version_of(function("run", ask(), params=(("m", "int"),)))
        self.assertIsNone(misfit(old, other, self.task({at("a"): price(1, 5)})))

    def test_args_by_the_kinds_of_the_new_version(self):
        old = Version([module(function("run", params=(("n", "color"),)))])
        alike = Version([module(function("run", params=(("n", "hue"),), inner=()), kinds=(HUE,), doors=(), keys=())])
        fewer = Version([module(function("run", params=(("n", "hue"),), inner=()), kinds=(("hue", (("Red", ()),)),), doors=(), keys=())])
        start = ("run", (("Mix", 1, "x"),), 0)
        self.assertIsNone(misfit(old, alike, self.task({}, start)))
        self.assertEqual(misfit(old, fewer, self.task({}, start)), ("start",))
        self.assertIsNone(misfit(old, fewer, self.task({}, ("run", (("Red",),), 0))))

    def test_question(self):
        old, story = version_with(ask(), sleep()), {at("a"): price(1, 5), at("s"): slept()}
        for now, new in ((("ask", "price", (2,)), version_with(ask(n=2), sleep())), (("sleep", 1), version_with(sleep("a"), sleep()))):
            self.assertEqual(misfit(old, new, self.task(story)), ("question", at("a"), ("ask", "price", (1,)), now))
        self.assertEqual(misfit(old, version_with(ask(), sleep(n=2)), self.task(story)), ("question", at("s"), ("sleep", 1), ("sleep", 2)))
        marked = version_with(("since", "a", (), ()))
        self.assertEqual(misfit(old, marked, self.task(story)), ("question", at("a"), ("ask", "price", (1,)), ("mark",)))

    def test_answer(self):
        old = version_with(ask(), sleep())
        new = Version([module(function("run", ("ask", "a", "ok", "price", (1,)), sleep()), doors=(("price", ("int",), "bool"),))])
        self.assertEqual(misfit(old, new, self.task({at("a"): price(1, 5)})), ("answer", at("a"), ("ask", "price", (1,))))
        receive = version_with(("receive", "r", "x", "num"))
        other = Version([module(function("run", ("receive", "r", "ok", "num")), keys=(("num", "bool"),))])
        story = {at("r"): (("receive", "num"), (("bob", at("m")), 4), 0)}
        self.assertEqual(misfit(receive, other, self.task(story)), ("answer", at("r"), ("receive", "num")))

    def test_missed(self):
        old = version_with(ask(), sleep(), PICK)
        story = {at("a"): price(1, 5), at("s"): slept(), at("p"): (("ask", "pick", ()), None, None)}
        self.assertEqual(misfit(old, version_with(ask()), self.task(story)), ("missed", at("p"), ("ask", "pick", ())))
        self.assertEqual(misfit(old, version_with(), self.task(story)), ("missed", at("a"), ("ask", "price", (1,))))

    def test_door(self):
        old = version_with(ask(), PICK)
        story = {at("a"): price(1, 5), at("p"): (("ask", "pick", ()), None, None)}
        alike = Version([module(function("run", ask(), PICK, inner=(("x", "int"), ("c", "hue"))), kinds=(HUE,), doors=(("price", ("int",), "int"), ("pick", (), "hue")), keys=())])
        turned = Version([module(function("run", ask(), PICK), kinds=(TURNED,), doors=DOORS, keys=KEYS)])
        self.assertIsNone(misfit(old, alike, self.task(story)))
        self.assertEqual(misfit(old, turned, self.task(story)), ("door", at("p"), ("ask", "pick", ())))
        # With an answer its value counts alone.
        answered = {**story, at("p"): (("ask", "pick", ()), ("Mix", 1, ""), 3)}
        self.assertIsNone(misfit(old, turned, self.task(answered)))

    def test_a_door_that_is_gone(self):
        old = version_with(("both", "b", (ask(),), (PICK,)))
        new = Version([module(function("run", ("both", "b", (ask(),), ()), inner=(("x", "int"),)), doors=DOORS[:1])])
        p = (0, ("b", 1), ("p", 0))
        story = {at("a", ("b", 0)): price(1), p: (("ask", "pick", ()), None, None)}
        # The run is ahead, but the door is looked at first.
        self.assertEqual(misfit(old, new, self.task(story)), ("door", p, ("ask", "pick", ())))

    def test_a_difference_at_an_open_ask_whose_door_is_not_alike(self):
        old = version_with(PICK)
        new = Version([module(function("run", ("ask", "p", "ok", "flag", ())), kinds=(TURNED,))])
        self.assertEqual(misfit(old, new, self.task({at("p"): (("ask", "pick", ()), None, None)})), ("question", at("p"), ("ask", "pick", ()), ("ask", "flag", ())))

    def test_the_least_index(self):
        one, other = (ask("a"),), (ask("z"),)
        old = version_with(("both", "b", one, (("ask", "z", "y", "price", (1,)),)))
        new = version_with(("both", "b", (ask("a", 2),), (("ask", "z", "y", "price", (2,)),)))
        a, z = at("a", ("b", 0)), (0, ("b", 1), ("z", 0))
        story = {z: price(1), a: price(1)}
        self.assertEqual(misfit(old, new, self.task(story)), ("question", a, ("ask", "price", (1,)), ("ask", "price", (2,))))
        self.assertEqual(misfit(old, new, self.task({a: story[a], z: story[z]})), misfit(old, new, self.task(story)))
        pick = version_with(("both", "b", (PICK,), (("ask", "z", "y", "price", (1,)),)))
        turned = Version([module(function("run", ("both", "b", (PICK,), (("ask", "z", "y", "price", (2,)),))), kinds=(TURNED,))])
        p = at("p", ("b", 0))
        self.assertEqual(misfit(pick, turned, self.task({p: (("ask", "pick", ()), None, None), z: price(1)})), ("door", p, ("ask", "pick", ())))
        self.assertEqual(other[0][1], "z")

    def test_ahead(self):
        old = version_with(ask(), sleep())
        new = version_with(("both", "b", (sleep("w"),), (sleep("v"),)), ask(), sleep())
        waits = (at("w", ("b", 0)), (0, ("b", 1), ("v", 0)))
        story = {at("s"): slept(), at("a"): price(1, 5)}
        self.assertEqual(misfit(old, new, self.task(story)), ("ahead", at("a"), waits))
        # By further answers it comes to fit.
        self.assertIsNone(misfit(old, new, self.task({**story, waits[0]: slept(), waits[1]: slept()})))

    def test_marks_make_no_misfit(self):
        old, new = version_with(ask(), sleep()), version_with(("since", "v", (sleep("w"),), ()), ask(), sleep())
        self.assertIsNone(misfit(old, new, self.task({at("a"): price(1, 5)})))
        self.assertIsNone(misfit(old, new, self.task({at("a"): price(1)})))
        taken = {at("v"): (("mark",), True, 0), at("w"): slept()}
        self.assertIsNone(misfit(new, version_with(sleep("w")), self.task(taken)))

    def test_errors_of_the_old_run(self):
        old, new = version_with(ask()), version_of(function("walk"))
        for odd in ODD:
            if not isinstance(odd, str):
                with self.assertRaises(InvalidTask) as caught:
                    misfit(old, new, (odd, odd, odd, odd))
                self.assertIs(caught.exception.value, odd)
            if type(odd) is not int or not 0 <= odd <= 10 ** 9:
                self.assertRaises(InvalidEpoch, misfit, old, new, ("ann", odd, odd, odd))
            self.assertRaises(InvalidStart, misfit, old, new, ("ann", 0, odd, odd))
            if not isinstance(odd, dict) or odd:
                self.assertRaises(InvalidStory, misfit, old, new, ("ann", 0, ("run", (1,), 0), odd))
        self.assertRaises(InvalidStart, misfit, old, new, ("ann", 0, ("walk", (1,), 0), {}))

    def test_what_fits_may_be_moved_and_the_other_way_round(self):
        """Against machines: a task moves alone if and only if it fits."""
        count = 0
        for seed in range(60):
            old, chance = random_version(seed), Random(seed)
            new = changed(old, chance)
            start = random_start(old, seed)
            for story in stories(old, start, chance, 2, 0.0, 6):
                if Run(old, "ann", 0, start, story).end() is not None:
                    continue
                machine = Machine.of_state([old, new], 0, 0, [Task("ann", 0, 0, start, story)], [])
                task = machine.population()["ann"][1]
                found = misfit(old, new, task)
                self.assertIsNone(misfit(old, old, task))
                try:
                    machine.move(["ann"], 1)
                    self.assertIsNone(found)
                    count += 1
                except NotClosed:
                    self.assertIn(found[0], ("start", "question", "answer", "missed", "door", "ahead"))
        self.assertGreater(count, 20)


def changed(version, chance):
    """The version with a statement left out, or put in, at the beginning of some functions."""
    modules = []
    for name, uses, kinds, doors, keys, functions in version.modules():
        made = []
        for head in functions:
            body = head[4]
            if chance.random() < 0.4 and body:
                body = body[1:]
            elif chance.random() < 0.3 and len(body) < 12:
                body = (("sleep", "99", 1), *body)
            elif chance.random() < 0.3 and len(body) < 12:
                body = (("since", "98", (), ()), *body)
            made.append((*head[:4], body))
        modules.append((name, uses, kinds, doors, keys, tuple(made)))
    try:
        return Version(modules)
    except InvalidVersion:
        return version


if __name__ == "__main__":
    unittest.main()
