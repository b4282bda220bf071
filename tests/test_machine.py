"""heldover.machine: what machines do, and what they refuse."""

import unittest
from random import Random

from heldover.errors import (
    Conflict, InvalidAnswer, InvalidArguments, InvalidCount, InvalidMinutes, InvalidName, InvalidOperation, InvalidRecord,
    NotClosed, NotFound, NotOpen, NotReady, Taken, TooMany, UnknownName,
)
from heldover.execution import Execution
from heldover.frames import is_right_frame
from heldover.machine import Machine
from heldover.pipelines import Pipeline, optimized
from heldover.runs import Run
from heldover.tasks import Task
from heldover.versions import Version
from tests.anything import ODD
from tests.programs import random_value, random_version
from tests.samples import COLOR, DOORS, KEYS, function, module, version_of

PAY = ("pay", (("n", "int"),), (("x", "int"),), "int", (
    ("ask", "a", "x", "price", ("n",)), ("send", "m", ("self",), "paid", "x"), ("receive", "r", "x", "paid"),
    ("return", ("add", "x", 1))))
SHOP = Version([("shop", (), (), (("price", ("int",), "int"),), (("paid", "int"),), (PAY,))])
A, M, R, S = [(0, (label, 0)) for label in "amrs"]

TALK = version_of(
    function("fail", ("sleep", "s", "n"), ("raise", "dear")),
    function("give", ("send", "m", "t", "num", "n"), ("send", "k", "t", "num", ("add", "n", 1)), ("return", "n"),
             params=(("n", "int"), ("t", "task")), inner=()),
    function("take", ("receive", "r", "x", "num"), ("receive", "q", "y", "num"), ("return", ("sub", "y", "x"))),
    function("turn", ("sleep", "s", 5), ("set", "x", ("add", "n", 1)), ("if", ("less", "x", 3), (("become", "turn", ("x",)),), ()), ("return", "n")),
    function("nap", ("sleep", "s", "n"), ("return", 1)),
    function("child", ("start", "c", "t", "nap", ("n",)), ("receive", "r", "c", "hue"), ("return", 2)),
    function("mark", ("since", "v", (("sleep", "z", 1),), (("sleep", "s", 2),)), ("return", 4)),
    function("quick", ("return", "n")),
)


def shop(*more):
    machine = Machine(SHOP, *more)
    machine.launch("ann", "pay", 3)
    return machine


class MachineTest(unittest.TestCase):
    def raises(self, error, call, *arguments, **more):
        """The error of a call, which changes nothing."""
        machine = call.__self__
        before, records = machine.clone(), machine.records()
        with self.assertRaises(error) as caught:
            call(*arguments, **more)
        self.assertTrue(machine == before)
        self.assertEqual(machine.records(), records)
        return caught.exception

    def same_again(self, machine):
        """Records, parts and clones make an equal machine."""
        again = Machine.of_records(machine.versions(), machine.records())
        self.assertTrue(again == machine)
        self.assertEqual(again.records(), machine.records())
        tasks = [machine.task(name) for living in (True, False) for name in machine.names(living=living)]
        parts = Machine.of_state(machine.versions(), machine.current, machine.now, tasks, machine.unread())
        self.assertTrue(parts == machine)
        self.assertEqual(parts.records(), [])
        self.assertTrue(machine.clone() == machine)
        for name in machine.names():
            self.assertEqual(machine.run(name).state, "closed")
            self.assertTrue(machine.run(name) == Run(machine.versions()[machine.task(name).version], name, machine.task(name).epoch,
                                                     machine.task(name).start, machine.task(name).story()))


class LifeTest(MachineTest):
    def test_the_example(self):
        machine = Machine(SHOP)
        self.assertEqual(repr(machine.launch("ann", "pay", 3)), "Task('ann', 0)")
        self.assertEqual((machine.asks(), machine.ready()), ([("ann", A, "price", (3,))], []))
        self.assertIs(machine.answer("ann", A, 7), True)
        self.assertEqual((machine.rest(), machine.task("ann").end()), ([("ann", M), ("ann", R)], ("result", 8)))
        self.same_again(machine)

    def test_beginning(self):
        machine = Machine(SHOP)
        self.assertEqual((machine.versions(), machine.current, machine.now, len(machine)), ([SHOP], 0, 0, 0))
        self.assertEqual((machine.names(), machine.asks(), machine.ready(), machine.records(), machine.unread()), ([], [], [], [], []))
        self.assertEqual((machine.population(), Machine.MAX_VERSIONS), ({}, 5))
        self.same_again(machine)

    def test_versions(self):
        machine = Machine(SHOP, TALK)
        self.assertEqual((machine.versions(), machine.current), ([SHOP, TALK], 0))
        self.assertEqual([machine.add_version(SHOP), machine.add_version(version=SHOP), machine.add_version(SHOP)], [2, 3, 4])
        self.assertEqual(self.raises(TooMany, machine.add_version, SHOP).what, "versions")
        self.assertEqual(machine.records(), [("version", number) for number in range(1, 5)])
        with self.assertRaises(TooMany):
            Machine(*[SHOP] * 6)
        self.same_again(machine)

    def test_the_clock(self):
        machine = Machine(SHOP)
        self.assertEqual([machine.wait(), machine.wait(0), machine.wait(minutes=5)], [1, 1, 6])
        self.assertEqual((machine.now, machine.records()), (6, [("waited", 1), ("waited", 1), ("waited", 6)]))
        for odd in ODD:
            if type(odd) is not int or odd < 0:
                self.assertIs(self.raises(InvalidMinutes, machine.wait, odd).value, odd)
        self.same_again(machine)

    def test_launching(self):
        machine = Machine(TALK)
        machine.wait(4)
        task = machine.launch("ann", "nap", 7)
        self.assertEqual((task.name, task.version, task.epoch, task.start, task.story(), task.end()), ("ann", 0, 0, ("nap", (7,), 4), {}, None))
        over = machine.launch("bob", "quick", 9)
        self.assertEqual((over.end(), over.version, over.story()), (("result", 9), None, {}))
        self.assertEqual((machine.names(), machine.names(living=False), len(machine)), (["ann"], ["bob"], 1))
        self.assertTrue("ann" in machine and "bob" in machine and "eve" not in machine)
        self.assertEqual(machine.records()[1:], [("started", "ann", 0, "nap", (7,), 4), ("started", "bob", 0, "quick", (9,), 4)])
        for odd in (*ODD, "Ann", "ann/0/a.0", "send", "toolongname"):
            if not isinstance(odd, str) or odd != "a":
                self.assertIs(self.raises(InvalidName, machine.launch, odd, "nope", 1).value, odd)
            if not isinstance(odd, str) or odd not in ("ann",):
                self.assertFalse(odd in machine)
        for name in ("ann", "bob"):
            self.assertEqual(self.raises(Taken, machine.launch, name, "nope").name, name)
        for odd in (*ODD, "nope"):
            self.assertIs(self.raises(UnknownName, machine.launch, "eve", odd, True).name, odd)
        for args in ((), (1, 2), (True,), ("a",), ([],)):
            self.assertEqual(self.raises(InvalidArguments, machine.launch, "eve", "nap", *args).name, "nap")
        self.same_again(machine)

    def test_tasks_and_runs(self):
        machine = shop()
        self.assertEqual(machine.run("ann").waits(), {A: ("ask", "price", (3,))})
        self.assertEqual(machine.task("ann").story(), {A: (("ask", "price", (3,)), None, None)})
        machine.task("ann").story().clear()
        machine.names().clear()
        machine.asks().clear()
        self.assertEqual((len(machine.task("ann").story()), machine.names(), len(machine.asks())), (1, ["ann"], 1))
        for odd in (*ODD, "eve"):
            for call in (machine.task, machine.run):
                self.assertIs(self.raises(NotFound, call, odd).value, odd)
        machine.answer("ann", A, 7)
        machine.rest()
        self.assertEqual(self.raises(NotFound, machine.run, "ann").value, "ann")
        self.assertEqual(machine.task(name="ann"), Task("ann", None, None, None, {}, ("result", 8)))

    def test_population(self):
        machine = shop()
        found = machine.population()
        self.assertEqual(list(found), ["ann"])
        version, task = found["ann"]
        self.assertTrue(version == SHOP)
        self.assertEqual(task, ("ann", 0, ("pay", (3,), 0), {A: (("ask", "price", (3,)), None, None)}))
        task[3].clear()
        self.assertEqual(len(machine.task("ann").story()), 1)


class StepTest(MachineTest):
    def test_messages_in_order(self):
        machine = Machine(TALK)
        machine.launch("ann", "take", 0)
        machine.launch("bob", "give", 5, "ann")
        machine.launch("eve", "give", 9, "ann")
        self.assertEqual(machine.ready(), [("bob", M), ("eve", M)])
        self.assertIs(machine.do("eve", M), True)
        self.assertIs(machine.do("bob", M), True)
        self.assertIs(machine.do("eve", (0, ("k", 0))), True)
        lying = [(("eve", M), 9), (("bob", M), 5), (("eve", (0, ("k", 0))), 10)]
        self.assertEqual((machine.messages("ann", "num"), machine.messages("ann", "paid")), (lying, []))
        self.assertEqual(machine.unread(), [(one, "ann", "num", value) for one, value in lying])
        self.same_again(machine)
        self.assertEqual(machine.do("ann", R), lying[0])
        self.assertEqual(machine.do("ann", (0, ("q", 0))), lying[1])
        self.assertEqual((machine.task("ann").end(), machine.unread()), (("result", -4), []))
        machine.do("bob", (0, ("k", 0)))
        self.assertEqual((machine.unread(), machine.names()), ([], []))
        self.same_again(machine)

    def test_errors_of_messages(self):
        machine = shop()
        for odd in (*ODD, "eve"):
            self.assertIs(self.raises(NotFound, machine.messages, odd, odd).value, odd)
            if not isinstance(odd, str) or odd != "paid":
                self.assertIs(self.raises(UnknownName, machine.messages, "ann", odd).name, odd)

    def test_messages_to_nobody_are_dropped(self):
        machine = Machine(TALK)
        machine.launch("bob", "give", 5, "ann")
        machine.launch("eve", "quick", 1)
        machine.launch("dan", "give", 5, "eve")
        machine.rest()
        self.assertEqual((machine.unread(), machine.names(living=False)), ([], ["bob", "dan", "eve"]))
        machine.launch("ann", "take", 0)
        self.assertEqual((machine.ready(), machine.messages("ann", "num")), ([], []))
        self.same_again(machine)

    def test_sleeps_are_due_to_the_minute(self):
        machine = Machine(TALK)
        machine.wait(3)
        machine.launch("ann", "nap", 4)
        machine.wait(3)
        self.assertEqual(machine.ready(), [])
        self.assertEqual(self.raises(NotReady, machine.do, "ann", S).index, S)
        machine.wait()
        self.assertEqual(machine.ready(), [("ann", S)])
        self.assertIs(machine.do("ann", S), True)
        self.assertEqual(machine.records()[-1], ("answered", "ann", S, ("sleep", 4), True, 7))
        self.same_again(machine)

    def test_children(self):
        machine = Machine(TALK, TALK)
        machine.wait(2)
        machine.launch("ann", "child", 3)
        machine.wait(1)
        name = machine.do("ann", (0, ("c", 0)))
        self.assertEqual(name, "ann/0/c.0")
        child = machine.task(name)
        self.assertEqual((child.version, child.epoch, child.start), (0, 0, ("nap", (3,), 3)))
        self.assertEqual(machine.records()[-1], ("answered", "ann", (0, ("c", 0)), ("start", "nap", (3,)), name, 3))
        self.assertTrue(name in machine)
        machine.move(["ann"], 1)
        self.assertEqual((machine.task("ann").version, machine.task(name).version), (1, 0))
        machine.wait(3)
        machine.rest()
        self.assertEqual(machine.task(name).end(), ("result", 1))
        self.same_again(machine)

    def test_children_of_children_that_become(self):
        one = function("low", ("sleep", "s", 1), ("return", 1))
        two = function("mid", ("start", "c", "t", "low", (1,)), ("sleep", "s", 1), ("become", "mid", ("n",)))
        top = function("top", ("start", "c", "t", "mid", (1,)), ("sleep", "s", 50), ("return", 1))
        machine = Machine(version_of(one, two, top))
        machine.launch("ann", "top", 1)
        machine.rest()
        machine.wait(1)
        machine.rest()
        self.assertEqual(machine.names(), ["ann", "ann/0/c.0", "ann/0/c.0/1/c.0"])
        self.assertEqual((machine.task("ann/0/c.0").epoch, machine.names(living=False)), (1, ["ann/0/c.0/0/c.0"]))
        self.same_again(machine)

    def test_becoming(self):
        machine = Machine(TALK)
        machine.launch("ann", "turn", 1)
        machine.launch("bob", "give", 7, "ann")
        machine.do("bob", M)
        machine.wait(9)
        self.assertEqual(machine.ready(), [("ann", S), ("bob", (0, ("k", 0)))])
        machine.do("ann", S)
        self.assertEqual(machine.ready()[0], ("ann", (0,)))
        self.assertEqual(machine.task("ann").end(), None)
        self.assertEqual(machine.do("ann", (0,)), 1)
        task = machine.task("ann")
        self.assertEqual((task.epoch, task.start, task.story()), (1, ("turn", (2,), 9), {}))
        self.assertEqual(machine.messages("ann", "num"), [(("bob", M), 7)])
        self.assertEqual(machine.records()[-1], ("became", "ann", "turn", (2,), 9))
        self.same_again(machine)
        machine.wait(5)
        machine.rest()
        self.assertEqual((machine.task("ann").end(), machine.unread()), (("result", 2), []))
        self.same_again(machine)

    def test_marks_and_errors(self):
        machine = Machine(TALK)
        machine.launch("ann", "mark", 1)
        machine.launch("bob", "fail", -3)
        self.assertEqual(machine.ready(), [("ann", (0, ("v", 0))), ("bob", S)])
        self.assertIs(machine.do("ann", (0, ("v", 0))), True)
        machine.do("bob", S)
        self.assertEqual((machine.task("bob").end(), machine.run("ann").waits()), (("error", "dear"), {(0, ("z", 0)): ("sleep", 1)}))
        self.same_again(machine)

    def test_errors_of_do(self):
        machine = shop()
        for odd in (*ODD, "eve"):
            self.assertIs(self.raises(NotFound, machine.do, odd, odd).value, odd)
        for odd in (*ODD, A, M, (0,), (1,), (True,), (0, ("a", True))):
            self.assertIs(self.raises(NotReady, machine.do, "ann", odd).index, odd)
        machine.answer("ann", A, 7)
        machine.rest()
        self.assertEqual(self.raises(NotFound, machine.do, "ann", M).value, "ann")

    def test_resting(self):
        machine = Machine(TALK)
        machine.launch("ann", "take", 0)
        machine.launch("bob", "give", 5, "ann")
        self.assertEqual((machine.rest(0), machine.rest(most=1)), ([], [("bob", M)]))
        self.assertEqual(machine.rest(2), [("ann", R), ("bob", (0, ("k", 0)))])
        self.assertEqual((machine.rest(), machine.rest()), ([("ann", (0, ("q", 0)))], []))
        for odd in ODD:
            if type(odd) is not int or odd < 0:
                self.assertIs(self.raises(InvalidCount, machine.rest, odd).value, odd)


class AnswerTest(MachineTest):
    def test_answers(self):
        machine = shop()
        machine.wait(4)
        self.assertIs(machine.answer(name="ann", index=A, value=7), True)
        self.assertEqual(machine.records()[-1], ("answered", "ann", A, ("ask", "price", (3,)), 7, 4))
        before = machine.records()
        self.assertIs(machine.answer("ann", A, 7), False)
        self.assertEqual(machine.records(), before)
        for odd in (*ODD, 8, True):
            if type(odd) is not int or odd != 7:
                error = self.raises(Conflict, machine.answer, "ann", A, odd)
                self.assertEqual((error.index, error.value), (A, 7))
        machine.rest()
        for odd in ODD:
            self.assertIs(machine.answer("ann", odd, odd), False)
        self.same_again(machine)

    def test_errors(self):
        machine = shop()
        for odd in (*ODD, "eve"):
            self.assertIs(self.raises(NotFound, machine.answer, odd, odd, odd).value, odd)
        for odd in (*ODD, M, (0, ("a", 1)), (1, ("a", 0)), [0, ("a", 0)]):
            self.assertIs(self.raises(NotOpen, machine.answer, "ann", odd, odd).index, odd)
        for odd in ODD:
            if type(odd) is not int:
                self.assertIs(self.raises(InvalidAnswer, machine.answer, "ann", A, odd).value, odd)
        machine.answer("ann", A, 7)
        machine.do("ann", M)
        self.assertEqual(self.raises(NotOpen, machine.answer, "ann", M, True).index, M)

    def test_earlier_epochs(self):
        machine = Machine(version_of(function("turn", ("ask", "a", "x", "price", (1,)), ("become", "turn", ("x",)))))
        machine.launch("ann", "turn", 0)
        machine.answer("ann", A, 4)
        self.assertEqual(self.raises(NotOpen, machine.answer, "ann", (1, ("a", 0)), 4).index, (1, ("a", 0)))
        self.assertEqual(machine.do("ann", (0,)), 1)
        before = machine.clone()
        for index in (A, (0, ("zz", 3))):
            self.assertIs(machine.answer("ann", index, "whatever"), False)
        self.assertTrue(machine == before)
        self.assertEqual(machine.asks(), [("ann", (1, ("a", 0)), "price", (1,))])
        self.assertIs(machine.answer("ann", (1, ("a", 0)), 5), True)
        self.same_again(machine)


class MoveTest(MachineTest):
    def setUp(self):
        def shop_with(*body, doors=DOORS, keys=KEYS, kinds=(COLOR,), params=(("n", "int"),)):
            return Version([module(function("run", *body, params=params), doors=doors, keys=keys, kinds=kinds)])
        ask, sleep, pick = ("ask", "a", "x", "price", (1,)), ("sleep", "s", 1), ("ask", "p", "c", "pick", ())
        self.old = shop_with(ask, sleep, pick)
        self.more = shop_with(ask, sleep, pick, ("sleep", "z", 1))
        self.swapped = shop_with(sleep, ask, pick)
        other = ("hue", (("Red", ()), ("Mix", ("int", "task"))))
        self.alike = Version([module(function("run", ask, sleep, pick, inner=(("x", "int"), ("c", "hue"))), kinds=(other,),
                                     doors=(("price", ("int",), "int"), ("pick", (), "hue")), keys=())])
        other = ("color", (("Mix", ("int", "task")), ("Red", ())))
        self.turned = shop_with(ask, sleep, pick, kinds=(other,))
        self.ended = shop_with(ask)

    def machine(self, steps, *names):
        machine = Machine(self.old, self.more, self.swapped, self.alike, self.turned)
        for name in names:
            machine.launch(name, "run", 1)
            for _ in range(steps):
                if machine.asks() and [one for one in machine.asks() if one[0] == name]:
                    machine.answer(name, machine.asks()[-1][1], 5)
                else:
                    machine.wait(1)
                    machine.rest()
        return machine

    def test_moving(self):
        machine = self.machine(0, "ann", "bob", "eve")
        self.assertIsNone(machine.move(("eve", "ann", "eve"), 1))
        self.assertEqual([machine.task(name).version for name in ("ann", "bob", "eve")], [1, 0, 1])
        self.assertEqual((machine.current, machine.records()[-1]), (1, ("moved", ("ann", "eve"), 1)))
        self.assertEqual(machine.launch("dan", "run", 1).version, 1)
        self.assertIsNone(machine.move(names=[], number=0))
        self.assertEqual((machine.current, machine.records()[-1]), (0, ("moved", (), 0)))
        self.same_again(machine)

    def test_refused_moves(self):
        machine = self.machine(1, "ann", "bob")
        for odd in (*ODD, "ann"):
            if not isinstance(odd, (list, tuple)):
                self.assertEqual(self.raises(InvalidArguments, machine.move, odd, 99).name, "move")
        for odd in (*ODD, "dan"):
            self.assertIs(self.raises(NotFound, machine.move, ["ann", odd, "zoe"], 99).value, odd)
        for odd in (*ODD, 5, -1):
            if type(odd) is not int or not 0 <= odd <= 4:
                self.assertIs(self.raises(NotFound, machine.move, ["ann"], odd).value, odd)
        for names in (["bob", "ann"], ["bob"]):
            self.assertEqual(self.raises(NotClosed, machine.move, names, 2).name, "bob")

    def test_kinds_of_answers(self):
        machine = self.machine(2, "ann")
        self.assertEqual([one[2] for one in machine.asks()], ["pick"])
        self.assertEqual(self.raises(NotClosed, machine.move, ["ann"], 4).name, "ann")
        machine.move(["ann"], 3)
        self.same_again(machine)
        self.assertIs(machine.answer("ann", (0, ("p", 0)), ("Mix", 1, "a")), True)

    def test_kinds_of_arguments_and_ends(self):
        other = Version([module(function("run", ("ask", "a", "x", "price", (1,)), params=(("n", "bool"),)))])
        machine = Machine(self.old, other, self.ended, self.more)
        machine.launch("ann", "run", 1)
        self.assertEqual(self.raises(NotClosed, machine.move, ["ann"], 1).name, "ann")
        machine.answer("ann", A, 5)
        machine.move(["ann"], 2)
        self.assertEqual((machine.names(), machine.task("ann").end()), ([], ("result", 0)))
        self.same_again(machine)

    def test_marks_of_messages_of_another_kind(self):
        one = version_of(function("take", ("receive", "r", "x", "num"), ("return", "x")),
                         function("give", ("send", "m", "t", "num", "n"), params=(("n", "int"), ("t", "task")), inner=()))
        take = function("take", ("receive", "r", "ok", "num"), ("return", 1))
        two = Version([module(take, keys=(("num", "bool"),))])
        machine = Machine(one, two)
        machine.launch("ann", "take", 1)
        machine.launch("bob", "give", 7, "ann")
        machine.move(["ann"], 1)
        machine.rest()
        self.assertEqual((machine.messages("ann", "num"), machine.ready()), ([(("bob", M), 7)], []))
        self.assertEqual(self.raises(NotReady, machine.do, "ann", R).index, R)
        self.same_again(machine)


class PerformTest(MachineTest):
    def test_each_operation(self):
        machine, other = Machine(SHOP), Machine(SHOP)
        for operation, call in (
            (("wait", 3), lambda: other.wait(3)), (("launch", "ann", "pay", (3,)), lambda: other.launch("ann", "pay", 3)),
            (("answer", "ann", A, 7), lambda: other.answer("ann", A, 7)), (("do", "ann", M), lambda: other.do("ann", M)),
            (("version",), lambda: other.add_version(SHOP)), (("move", ["ann"], 1), lambda: other.move(["ann"], 1)),
            (("rest", 5), lambda: other.rest(5)),
        ):
            self.assertEqual(machine.perform(operation, SHOP), call())
            self.assertTrue(machine == other)
        self.assertEqual(machine.perform(operation=("version",), version=SHOP), 2)
        self.same_again(machine)

    def test_what_is_no_operation(self):
        machine = shop()
        for odd in (*ODD, ("wait",), ("wait", 1, 2), ["wait", 1], ("version", 1), ("launch", "eve", "pay", [3]), ("launch", "eve", "pay"),
                    ("do", "ann"), ("answer", "ann", A), ("rest",), ("move", []), ("nope", 1), ("task", "ann")):
            self.assertIs(self.raises(InvalidOperation, machine.perform, odd).value, odd)
        self.raises(InvalidMinutes, machine.perform, ("wait", -1))
        self.raises(Taken, machine.perform, ("launch", "ann", "pay", (3,)))
        self.raises(NotReady, machine.perform, ("do", "ann", M))


class RecordsTest(MachineTest):
    def setUp(self):
        self.machine = Machine(TALK, TALK)
        self.machine.launch("ann", "turn", 1)
        self.machine.launch("bob", "give", 7, "eve")
        self.machine.launch("eve", "take", 7)
        self.machine.wait(9)
        self.machine.rest(6)
        self.machine.move(["ann"], 1)
        self.machine.wait(0)
        self.versions, self.records = self.machine.versions(), self.machine.records()

    def position(self, records):
        with self.assertRaises(InvalidRecord) as caught:
            Machine.of_records(self.versions, records)
        return caught.exception.position

    def test_they_are_repeated(self):
        self.same_again(self.machine)
        self.assertTrue(Machine.of_records(versions=self.versions, records=tuple(self.records)) == self.machine)
        words = [record[0] for record in self.records]
        self.assertEqual(set(words), {"version", "started", "waited", "answered", "became", "moved"})
        for count in range(len(self.records)):
            again = Machine.of_records(self.versions, self.records[:count])
            self.assertEqual(again.records(), self.records[:count])

    def test_any_value(self):
        for odd in (*ODD, ("waited",), ("waited", 0, 0), ["waited", 99], ("nope", 1), ("waited", -1), ("waited", True), ("at", 0, 1, 0)):
            self.assertEqual(self.position([odd, *self.records]), 0)
            self.assertEqual(self.position([*self.records, odd]), len(self.records))

    def test_one_item_spoilt(self):
        for at, record in enumerate(self.records):
            for item in range(len(record)):
                for odd in (*ODD[:6], "zoe", 17, (), (1,), [], {}, ("ask", "price", (1,)), (0, ("a", 0))):
                    spoilt = (*record[:item], odd, *record[item + 1:])
                    if repr(spoilt) == repr(record) or record[0] == "waited" and type(odd) is int and odd >= 0:
                        continue
                    if record[0] == "started" and (item == 1 and odd in ("a", "zoe") or item == 4 and odd == (1,)):
                        # It can happen there; only later records do not fit.
                        continue
                    if record[0] == "moved" and (item == 1 and odd == () or item == 2 and type(odd) is int and odd == 0):
                        continue
                    self.assertEqual(self.position([*self.records[:at], spoilt, *self.records[at + 1:]]), at, spoilt)

    def test_records_that_cannot_happen_there(self):
        at = [record[0] for record in self.records].index("answered")
        self.assertEqual(self.position([*self.records[:at + 1], self.records[at]]), at + 1)
        self.assertEqual(self.position(self.records[at:]), 0)
        self.assertEqual(self.position([*self.records, ("waited", 3)]), len(self.records))
        self.assertEqual(self.position([*self.records, ("version", 2)]), len(self.records))
        self.assertEqual(self.position([*self.records, ("moved", ("ann", "ann"), 1)]), len(self.records))
        self.assertEqual(self.position([*self.records, ("moved", ["ann"], 1)]), len(self.records))

    def test_asks(self):
        machine = shop()
        good = ("answered", "ann", A, ("ask", "price", (3,)), 7, 0)
        records = machine.records()
        self.assertEqual(Machine.of_records([SHOP], [*records, good]).task("ann").story()[A][1], 7)
        for wrong in ((*good[:4], True, 0), (*good[:4], 7, 1), (*good[:3], ("ask", "price", (4,)), 7, 0), (*good[:2], M, *good[3:]),
                      (*good[:3], ("ask", "price", (3,), 1), 7, 0), (*good[:3], ("sleep", 1), True, 0)):
            with self.assertRaises(InvalidRecord) as caught:
                Machine.of_records([SHOP], [*records, wrong])
            self.assertEqual(caught.exception.position, 1)
        with self.assertRaises(InvalidRecord):
            Machine.of_records([SHOP], [*records, good, good])


class StateTest(MachineTest):
    def setUp(self):
        self.task = Task("ann", 0, 0, ("pay", (3,), 0), {})
        self.over = Task("bob", None, None, None, {}, ("error", "dear"))

    def made(self, versions=(SHOP,), current=0, now=5, tasks=None, unread=()):
        return Machine.of_state(list(versions), current, now, [self.task, self.over] if tasks is None else tasks, list(unread))

    def raised(self, error, field, **more):
        with self.assertRaises(error) as caught:
            self.made(**more)
        return getattr(caught.exception, field)

    def test_it_settles(self):
        machine = self.made(unread=[(("eve", M), "ann", "paid", 4)])
        self.assertEqual((machine.asks(), machine.now, machine.records()), ([("ann", A, "price", (3,))], 5, []))
        self.assertEqual((machine.names(), machine.names(living=False), machine.messages("ann", "paid")), (["ann"], ["bob"], [(("eve", M), 4)]))
        story = {A: (("ask", "price", (3,)), 7, 0), M: (("send", "ann", "paid", 7), True, 0), R: (("receive", "paid"), (("ann", M), 7), 0)}
        machine = self.made(tasks=[Task("ann", 0, 0, ("pay", (3,), 0), story)], unread=[(("eve", M), "ann", "paid", 4)])
        self.assertEqual((machine.task("ann").end(), machine.unread()), (("result", 8), []))
        self.same_again(Machine.of_records([SHOP], shop().records()))

    def test_errors_in_their_order(self):
        wrong = Task("ann", 0, 0, ("pay", (True,), 0), {})
        lost = [(("eve", M), "zoe", "paid", 4)]
        self.assertEqual(self.raised(TooMany, "what", versions=[SHOP] * 6, current=9, tasks=[wrong, wrong]), "versions")
        for odd in (*ODD, 1, -1):
            if type(odd) is not int or odd != 0:
                self.assertIs(self.raised(NotFound, "value", current=odd, tasks=[wrong, wrong]), odd)
        self.assertEqual(self.raised(Taken, "name", tasks=[wrong, self.over, self.over], unread=lost), "bob")
        for one in (wrong, Task("ann", 1, 0, ("pay", (3,), 0), {}), Task("ann", True, 0, ("pay", (3,), 0), {}),
                    Task("ann", 0, 0, ("nope", (), 0), {}), Task("ann", 0, 0, ("pay", (3,), 0), {M: (("sleep", 1), True, 0)}),
                    Task("ann", 0, 0, ("pay", (3,), 0), {A: (("ask", "price", (4,)), None, None)})):
            self.assertEqual(self.raised(NotClosed, "name", tasks=[self.over, one], unread=lost), "ann")
        self.assertEqual(self.raised(NotFound, "value", unread=lost), "zoe")
        self.assertEqual(self.raised(NotFound, "value", unread=[(("eve", M), "bob", "paid", 4)]), "bob")
        machine = Machine.of_state(versions=[SHOP], current=0, now=0, tasks=[self.task], unread=[])
        self.assertEqual(len(machine), 1)

    def test_clones_are_independent(self):
        machine = shop()
        other = machine.clone()
        other.answer("ann", A, 7)
        other.do("ann", M)
        other.wait(3)
        other.add_version(SHOP)
        self.assertEqual((machine.now, len(machine.versions()), machine.unread(), len(machine.records())), (0, 1, [], 1))
        self.assertEqual(machine.asks(), [("ann", A, "price", (3,))])
        self.assertEqual(len(other.records()), 5)

    def test_equality(self):
        machine = shop()
        self.assertTrue(machine == shop())
        self.assertFalse(machine != shop())
        for change in (lambda one: one.wait(), lambda one: one.add_version(SHOP), lambda one: one.launch("bob", "pay", 3),
                       lambda one: one.answer("ann", A, 7), lambda one: one.move([], 0) or one.wait()):
            other = shop()
            change(other)
            self.assertFalse(machine == other)
        other = shop()
        other.wait(0)
        other.move([], 0)
        self.assertTrue(machine == other)
        for odd in (None, 1, "ann", (), shop().population()):
            self.assertFalse(machine == odd)


class ChanceTest(MachineTest):
    """Machines by chance: closed stories, records, and another order of the tasks."""

    def live(self, seed, order=None):
        version, chance = random_version(seed), Random(seed)
        machine = Machine(version, version)
        name = version.names()[-1]
        for task in ("ann", "bob", "eve"):
            machine.launch(task, name, *[random_value(chance, kind) for kind in version.signature(name)[0]])
        for _ in range(25):
            if len(machine) > 10:
                break
            for one in machine.names():
                self.assertEqual(machine.run(one).state, "closed")
                waits = machine.run(one).waits()
                self.assertEqual({index for index, question in waits.items() if question[0] == "ask"} - set(machine.task(one).story()), set())
            machine.wait(chance.choice((0, 1, 5)))
            ready = machine.ready()
            self.assertEqual(ready, sorted(ready))
            for task, index, door, _ in machine.asks()[:2]:
                machine.answer(task, index, random_value(chance, version.door(door)[1]))
            if ready and len(machine) < 10:
                machine.do(*chance.choice(machine.ready() or ready))
            if chance.random() < 0.1:
                machine.move(machine.names(), chance.choice((0, 1)))
        return machine

    def test_lives(self):
        for seed in range(30):
            self.same_again(self.live(seed))

    def test_optimized_codes_stand_where_the_tasks_stand(self):
        for seed in range(30, 45):
            machine = self.live(seed)
            version = machine.versions()[0]
            codes, maps = optimized(version, Pipeline.standard("1", "2", "lca", "lea"))
            for name in machine.names():
                run = machine.run(name)
                done = Execution(version, codes, name, run.epoch, run.start, run.story())
                self.assertEqual((done.waits(), done.differences(), done.end()), (run.waits(), {}, run.end()))
                if run.end() is None:
                    self.assertTrue(is_right_frame(codes, maps, run, done.frame()))
                    self.assertEqual(Execution.from_frame(version, codes, name, run.epoch, done.frame(), run.story()).waits(), run.waits())

    def test_another_order_of_the_tasks(self):
        for names in (("ann", "bob", "eve"), ("eve", "ann", "bob"), ("bob", "eve", "ann")):
            machine = Machine(TALK)
            for name in ("ann", "bob", "eve"):
                machine.launch(name, "turn", 1)
            machine.wait(5)
            for name in names:
                machine.do(name, S)
            for name in reversed(names):
                machine.do(name, (0,))
            if names[0] == "ann":
                first = machine
            self.assertTrue(machine == first)
