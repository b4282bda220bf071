"""heldover.execution: what executions of codes do, by hand and against plain runs."""

import unittest
from random import Random

from heldover.compiler import compiled_all
from heldover.errors import (
    InvalidCodes, InvalidEpoch, InvalidFrame, InvalidStart, InvalidStory, InvalidTask, NoFrame, Stuck,
)
from heldover.execution import Execution
from heldover.frames import is_frame, is_right_frame
from heldover.runs import Run
from tests.anything import ODD
from tests.programs import random_entry, random_start, random_version
from tests.samples import function, version_of, version_with
from tests.test_runs import VERSION

START = ("buy", (3,), 10)
DOUBLE = ("buy", 1, 2, (
    ((), ((1, ("add", ("slot", 0), ("slot", 0))),), ("jump", 1)),
    ((("a", 0),), (), ("ask", 1, "price", (("slot", 1),), 2)),
    (None, (), ("return", ("slot", 1))),
))
PLAIN = version_of(function("one"), function("run"))
BEGIN = ("run", (7,), 0)


def slot(number):
    return ("slot", number)


def value(datum):
    return ("value", datum)


def code_of(*blocks, slots=4, name="run", parameters=1):
    """A code whose first block has the place ()."""
    return (name, parameters, slots, tuple(blocks))


def do(*blocks, story=None, slots=4, more=(), version=PLAIN):
    codes = {"run": code_of(*blocks, slots=slots), **{one[0]: one for one in more}}
    return Execution(version, codes, "ann", 0, BEGIN, story or {})


def result_of(*steps, slots=4):
    """What slot 1 holds behind steps, None for nothing."""
    blocks = [((), tuple(steps), ("jump", 1)), ((("s", 0),), (), ("sleep", value(1), 2)), (None, (), ("return", value(0)))]
    frame = do(*blocks, slots=slots).frame()
    return frame[1][0][1]


class SameTest(unittest.TestCase):
    """Executions of the compiler's codes do what plain runs do."""

    def compare(self, version, codes, maps, start, story):
        run = Run(version, "ann", 0, start, story)
        done = Execution(version, codes, "ann", 0, start, story)
        self.assertEqual((done.waits(), done.differences()), (run.waits(), run.differences()))
        self.assertEqual((done.end(), done.come_to(), done.passed()), (run.end(), run.come_to(), run.passed()))
        if run.end() is None:
            self.assertTrue(is_right_frame(codes, maps, run, done.frame()))
        else:
            self.assertRaises(NoFrame, done.frame)
        return run, done

    def go_on(self, version, codes, frames, story, run, done):
        """From each earlier frame the same is come to."""
        if run.missed():
            return
        for frame, known, passed in frames:
            further = Execution.from_frame(version, codes, "ann", 0, frame, story)
            self.assertEqual((further.waits(), further.end()), (done.waits(), done.end()))
            self.assertEqual(further.differences(), done.differences())
            self.assertEqual(further.come_to(), [index for index in done.come_to() if index not in known])
            self.assertEqual(further.passed(), [index for index in done.passed() if index not in passed])
            if run.end() is None:
                self.assertEqual(further.frame(), done.frame())

    def grow(self, seed, wrong, steps=14):
        version = random_version(seed)
        codes, maps = compiled_all(version)
        start, chance, story, frames = random_start(version, seed), Random(seed), {}, []
        for moment in range(steps):
            run, done = self.compare(version, codes, maps, start, story)
            self.go_on(version, codes, frames, story, run, done)
            if run.end() is None:
                # Entries of the steps at which it stands are behind the frame.
                frames.append((done.frame(), set(done.come_to()) - set(done.waits()), done.passed()))
            waits = {index: question for index, question in done.waits().items() if index not in story}
            if not waits:
                break
            index = chance.choice(sorted(waits))
            story[index] = random_entry(version, chance, waits[index], index, moment, wrong)

    def test_along_the_run(self):
        for seed in range(30):
            self.grow(seed, 0)

    def test_with_wrong_entries(self):
        for seed in range(400, 430):
            self.grow(seed, 0.15)

    def test_several_epochs(self):
        codes, _ = compiled_all(VERSION)
        index = (5, ("a", 0))
        done = Execution(VERSION, codes, "ann", 5, START, {index: (("ask", "price", (3,)), 7, 12)})
        self.assertEqual(sorted(done.waits()), [(5, ("b", 0), ("w", 0)), (5, ("b", 1), ("r", 0))])


class ExampleTest(unittest.TestCase):
    def test_the_example(self):
        other = Execution(VERSION, {"buy": DOUBLE}, "ann", 0, START, {})
        self.assertEqual(other.waits(), {(0, ("a", 0)): ("ask", "price", (6,))})
        self.assertEqual((other.frame(), other.blocks_done), (("buy", ((3, 6), 1, None)), 2))

    def test_an_answer(self):
        story = {(0, ("a", 0)): (("ask", "price", (6,)), 40, 11)}
        other = Execution(VERSION, {"buy": DOUBLE}, name="ann", epoch=0, start=START, story=story)
        self.assertEqual((other.end(), other.blocks_done), (("result", 40), 3))
        self.assertEqual((other.come_to(), other.waits(), other.differences()), ([(0, ("a", 0))], {}, {}))
        self.assertRaises(NoFrame, other.frame)

    def test_open_asks_wait(self):
        story = {(0, ("a", 0)): (("ask", "price", (6,)), None, None)}
        other = Execution(VERSION, {"buy": DOUBLE}, "ann", 0, START, story)
        self.assertEqual((other.waits(), other.come_to()), ({(0, ("a", 0)): ("ask", "price", (6,))}, [(0, ("a", 0))]))

    def test_differences(self):
        index = (0, ("a", 0))
        for entry, problem in (((("ask", "price", (3,)), 7, 1), "question"), ((("ask", "price", (6,)), True, 1), "answer")):
            other = Execution(VERSION, {"buy": DOUBLE}, "ann", 0, START, {index: entry})
            self.assertEqual(other.differences(), {index: (problem, ("ask", "price", (6,)))})
            self.assertEqual((other.end(), other.waits(), other.frame()[1][1]), (None, {}, 1))

    def test_missed_entries(self):
        index, story = (0, ("z", 0)), {(0, ("a", 0)): (("ask", "price", (6,)), 40, 11)}
        story[index] = (("sleep", 1), True, 5)
        story[(0, ("zz", 0))] = (("sleep", 1), True, 5)
        other = Execution(VERSION, {"buy": DOUBLE}, "ann", 0, START, story)
        self.assertEqual((other.differences(), other.end()), ({index: ("missed", ("sleep", 1))}, ("result", 40)))
        frame = Execution(VERSION, {"buy": DOUBLE}, "ann", 0, START, {}).frame()
        other = Execution.from_frame(VERSION, {"buy": DOUBLE}, "ann", 0, frame, story)
        self.assertEqual((other.differences(), other.end()), ({}, ("result", 40)))

    def test_doors_and_keys_that_the_version_does_not_have(self):
        blocks = (((), (), ("jump", 1)), ((("a", 0),), (), ("ask", 1, "nope", (), 2)), (None, (), ("return", slot(1))))
        entry = (("ask", "nope", ()), 1, 0)
        other = do(*blocks, story={(0, ("a", 0)): entry})
        self.assertEqual(other.differences(), {(0, ("a", 0)): ("answer", ("ask", "nope", ()))})
        other = do(*blocks, story={(0, ("a", 0)): (("ask", "nope", ()), None, None)})
        self.assertEqual(other.waits(), {(0, ("a", 0)): ("ask", "nope", ())})
        blocks = (((), (), ("jump", 1)), ((("a", 0),), (), ("receive", 1, "nope", 2)), (None, (), ("return", slot(1))))
        other = do(*blocks, story={(0, ("a", 0)): (("receive", "nope"), (("", (0, ("m", 0))), 1), 0)})
        self.assertEqual(other.differences(), {(0, ("a", 0)): ("answer", ("receive", "nope"))})


class OperationTest(unittest.TestCase):
    """Steps by hand; slot 0 holds 7, the other slots nothing."""

    def test_values(self):
        for operation, wanted in (
            (slot(0), 7), (value(("Mix", 1, "a")), ("Mix", 1, "a")), (("self",), "ann"),
            (("add", slot(0), value(1)), 8), (("sub", slot(0), value(9)), -2), (("mul", slot(0), slot(0)), 49),
            (("div", value(-7), value(2)), -4), (("div", slot(0), value(0)), 0), (("mod", value(-7), value(2)), 1),
            (("mod", slot(0), value(0)), 0), (("less", slot(0), value(8)), True), (("less", slot(0), slot(0)), False),
            (("same", slot(0), value(7)), True), (("same", value("a"), value(("Red",))), False),
            (("same", value(1), value(True)), False), (("and", value(True), value(False)), False),
            (("or", value(True), value(False)), True), (("not", value(False)), True),
            (("tag", "Foo"), ("Foo",)), (("tag", "Foo", slot(0), value(True)), ("Foo", 7, True)),
            (("is", "Foo", value(("Foo", 1))), True), (("is", "Foo", value(("Bar",))), False), (("is", "Foo", slot(0)), False),
            (("part", 1, value(("Foo", 1, 2))), 2),
        ):
            found = result_of((1, operation))
            self.assertEqual((found, type(found)), (wanted, type(wanted)), operation)

    def test_nothing(self):
        deep = value(0)
        for _ in range(12):
            deep = value(("Foo", deep[1]))
        for operation in (
            slot(2), ("add", slot(0), slot(2)), ("add", value(True), value(1)), ("sub", value("a"), value(1)),
            ("mul", value(("Red",)), value(1)), ("div", value(True), value(1)), ("mod", value(1), value(False)),
            ("less", value(False), value(1)), ("and", value(1), value(True)), ("or", value(True), value("")),
            ("not", value(0)), ("part", 0, slot(0)), ("part", 2, value(("Foo", 1, 2))), ("part", 0, value(("Red",))),
            ("tag", "Foo", deep), ("tag", "Foo", slot(3)), ("is", "Foo", slot(3)), ("same", slot(3), slot(3)),
        ):
            self.assertIsNone(result_of((1, value(5)), (1, operation)), operation)

    def test_steps_follow_each_other(self):
        self.assertEqual(result_of((1, value(5)), (2, ("add", slot(1), slot(0))), (1, ("mul", slot(2), slot(2)))), 144)


class EndTest(unittest.TestCase):
    """Each end by hand."""

    def test_plain_ends(self):
        self.assertEqual(do(((), (), ("return", slot(0)))).end(), ("result", 7))
        self.assertEqual(do(((), (), ("raise", "dear"))).end(), ("error", "dear"))
        self.assertEqual(do(((), (), ("become", "one", (slot(0), value("a"))))).end(), ("become", "one", (7, "a")))
        for truth, wanted in ((True, 1), (False, 2)):
            blocks = (((), (), ("branch", value(truth), 1, 2)), (None, (), ("return", value(1))), (None, (), ("return", value(2))))
            self.assertEqual(do(*blocks).end(), ("result", wanted))

    def wait(self, end, story=None):
        return do(((), ((1, value(3)),), ("jump", 1)), ((("s", 0),), (), end), (None, (), ("return", slot(1))), story=story)

    def test_questions(self):
        for end, question in (
            (("ask", 1, "price", (slot(0), value(True)), 2), ("ask", "price", (7, True))),
            (("send", value("bob"), "paid", slot(0), 2), ("send", "bob", "paid", 7)),
            (("receive", 1, "paid", 2), ("receive", "paid")),
            (("sleep", slot(0), 2), ("sleep", 7)), (("sleep", value(-3), 2), ("sleep", 0)),
            (("start", 1, "one", (slot(0),), 2), ("start", "one", (7,))),
            (("mark", 2, 2), ("mark",)),
        ):
            self.assertEqual(self.wait(end).waits(), {(0, ("s", 0)): question})

    def test_answers(self):
        message = (("bob", (0, ("m", 0))), True)
        for end, question, answer, wanted in (
            (("ask", 1, "price", (value(1),), 2), ("ask", "price", (1,)), 9, 9),
            (("ask", None, "price", (value(1),), 2), ("ask", "price", (1,)), 9, 3),
            (("receive", 1, "paid", 2), ("receive", "paid"), message, True),
            (("receive", None, "paid", 2), ("receive", "paid"), message, 3),
            (("start", 1, "one", (), 2), ("start", "one", ()), "ann/0/s.0", "ann/0/s.0"),
            (("start", None, "one", (), 2), ("start", "one", ()), "ann/0/s.0", 3),
            (("sleep", value(1), 2), ("sleep", 1), True, 3), (("mark", 2, 0), ("mark",), True, 3),
        ):
            done = self.wait(end, {(0, ("s", 0)): (question, answer, 0)})
            self.assertEqual(done.end(), ("result", wanted), end)

    def test_places_with_slots(self):
        blocks = (((), ((1, value(4)),), ("jump", 1)), ((("k", slot(1)), ("s", 0)), (), ("sleep", value(1), 2)),
                  (None, (), ("return", slot(0))))
        self.assertEqual(list(do(*blocks).waits()), [(0, ("k", 4), ("s", 0))])

    def test_marks(self):
        blocks = (
            ((), (), ("jump", 1)), ((("m", 0),), (), ("mark", 2, 3)), (None, (), ("return", value("new"))),
            ((("s", 0),), (), ("sleep", value(1), 4)), (None, (), ("return", value("old"))))
        self.assertEqual(do(*blocks).waits(), {(0, ("m", 0)): ("mark",)})
        taken = do(*blocks, story={(0, ("m", 0)): (("mark",), True, 0)})
        self.assertEqual((taken.end(), taken.passed()), (("result", "new"), []))
        passed = do(*blocks, story={(0, ("s", 0)): (("sleep", 1), True, 0)})
        self.assertEqual((passed.end(), passed.passed()), (("result", "old"), [(0, ("m", 0))]))
        other = do(*blocks, story={(0, ("m", 0)): (("sleep", 1), True, 0)})
        self.assertEqual(other.differences(), {(0, ("m", 0)): ("question", ("mark",))})
        frame = do(*blocks).frame()
        codes = {"run": code_of(*blocks)}
        later = Execution.from_frame(PLAIN, codes, "ann", 0, frame, {(0, ("s", 0)): (("sleep", 1), True, 0)})
        self.assertEqual((later.end(), later.passed()), (("result", "old"), [(0, ("m", 0))]))

    def test_an_old_execution_that_is_stuck_comes_to_no_further_entries(self):
        blocks = (
            ((), (), ("jump", 1)), ((("m", 0),), (), ("mark", 2, 3)), (None, (), ("return", value(1))),
            (None, (), ("return", slot(3))))
        self.assertEqual(do(*blocks).waits(), {(0, ("m", 0)): ("mark",)})
        blocks = (
            ((), (), ("jump", 1)), ((("m", 0),), (), ("mark", 2, 3)), (None, (), ("return", value(1))),
            ((("s", 0),), (), ("sleep", value(1), 4)), (None, (), ("return", slot(3))))
        self.assertEqual(self.stuck_at(*blocks, story={(0, ("s", 0)): (("sleep", 1), True, 0)}), ("run", 4))

    def stuck_at(self, *blocks, **more):
        with self.assertRaises(Stuck) as caught:
            do(*blocks, **more)
        return (caught.exception.name, caught.exception.block)


class CallTest(unittest.TestCase):
    """Calls and boths by hand."""

    def call(self, one, errors=(), answer=1, args=(slot(0),)):
        return do(
            ((), ((1, value(3)),), ("jump", 1)), ((("c", 0),), (), ("call", answer, "one", args, 2, errors)),
            (None, (), ("return", slot(1))), (None, (), ("return", value("caught"))), more=(one,))

    def test_results(self):
        one = code_of(((), (), ("return", ("slot", 0))), name="one")
        self.assertEqual(self.call(one).end(), ("result", 7))
        self.assertEqual(self.call(one, answer=None).end(), ("result", 3))

    def test_callees_begin_with_nothing(self):
        one = code_of(((), (), ("jump", 1)), ((("s", 0),), (), ("sleep", ("value", 1), 1)), name="one")
        done = self.call(one)
        self.assertEqual(list(done.waits()), [(0, ("c", 0), ("s", 0))])
        self.assertEqual(done.frame(), ("run", ((7, 3, None, None), 1, ("one", ((7, None, None, None), 1, None)))))

    def test_errors_with_and_without_a_block(self):
        one = code_of(((), (), ("raise", "dear")), name="one")
        self.assertEqual(self.call(one).end(), ("error", "dear"))
        self.assertEqual(self.call(one, (("dear", 3),)).end(), ("result", "caught"))
        self.assertEqual(self.call(one, (("late", 3),)).end(), ("error", "dear"))

    def both(self, one, other, errors=(), taken=((1,), (2,)), slots=6):
        """Slot 3 is set in both bodies, but not taken over."""
        return do(
            ((), ((1, value(10)), (2, value(20)), (3, value(30))), ("jump", 1)),
            ((("b", 0),), (), ("both", 2, 3, *taken, 4, errors)),
            (None, ((1, value(11)), (2, value(21)), (3, value(31))), one),
            (None, ((1, value(12)), (2, value(22)), (3, value(32))), other),
            ((("b", 2),), ((4, ("tag", "Foo", slot(1), slot(2), slot(3))),), ("return", slot(4))),
            ((("t", 1),), ((4, ("tag", "Bad", slot(1), slot(2), slot(3))),), ("return", slot(4))), slots=slots)

    def test_slots_that_are_taken_over(self):
        self.assertEqual(self.both(("done",), ("done",)).end(), ("result", ("Foo", 11, 22, 30)))
        self.assertEqual(self.both(("done",), ("done",), taken=((), (1, 3))).end(), ("result", ("Foo", 12, 20, 32)))
        done = self.both(("raise", "dear"), ("done",), (("dear", 5),))
        self.assertEqual(done.end(), ("result", ("Bad", 11, 22, 30)))

    def test_which_error_decides(self):
        errors = (("late", 5),)
        self.assertEqual(self.both(("raise", "dear"), ("raise", "late"), errors).end(), ("error", "dear"))
        self.assertEqual(self.both(("raise", "late"), ("raise", "dear"), errors).end(), ("result", ("Bad", 11, 22, 30)))
        self.assertEqual(self.both(("done",), ("raise", "late"), errors).end(), ("result", ("Bad", 11, 22, 30)))
        self.assertEqual(self.both(("done",), ("raise", "dear"), errors).end(), ("error", "dear"))

    def test_frames_of_boths(self):
        done = do(
            ((), (), ("jump", 1)), ((("b", 0),), (), ("both", 2, 3, (), (1,), 4, ())),
            ((("b", 0), ("s", 0)), (), ("sleep", value(1), 5)), (None, ((1, value(5)),), ("raise", "dear")),
            ((("b", 2),), (), ("return", slot(0))), (None, (), ("done",)))
        frame = ("run", ((7, None, None, None), 1, (((7, None, None, None), 2, None), ("ended", (7, 5, None, None), "dear"))))
        self.assertEqual((done.frame(), done.blocks_done), (frame, 4))
        codes = {"run": code_of(
            ((), (), ("jump", 1)), ((("b", 0),), (), ("both", 2, 3, (), (1,), 4, ())),
            ((("b", 0), ("s", 0)), (), ("sleep", value(1), 5)), (None, ((1, value(5)),), ("raise", "dear")),
            ((("b", 2),), (), ("return", slot(0))), (None, (), ("done",)))}
        self.assertTrue(is_frame(codes, frame))
        story = {(0, ("b", 0), ("s", 0)): (("sleep", 1), True, 0)}
        later = Execution.from_frame(PLAIN, codes, "ann", 0, frame, story)
        self.assertEqual((later.end(), later.blocks_done, later.come_to()), (("error", "dear"), 3, sorted(story)))
        again = Execution.from_frame(PLAIN, codes, "ann", 0, frame, {})
        self.assertEqual((again.frame(), again.blocks_done), (frame, 2))

    def test_both_bodies_wait(self):
        done = do(
            ((), (), ("jump", 1)), ((("b", 0),), (), ("both", 2, 3, (), (), 4, ())),
            ((("b", 0), ("s", 0)), (), ("sleep", value(1), 5)), ((("b", 1), ("r", 0)), (), ("receive", None, "paid", 5)),
            ((("b", 2),), (), ("return", slot(0))), (None, (), ("done",)))
        self.assertEqual(done.waits(), {(0, ("b", 0), ("s", 0)): ("sleep", 1), (0, ("b", 1), ("r", 0)): ("receive", "paid")})


class DeepFrameTest(unittest.TestCase):
    """Frames within several calls, and going on from them."""

    def setUp(self):
        low = function("low", ("ask", "a", "x", "price", ("n",)), ("sleep", "s", "x"), ("return", ("add", "x", "n")))
        mid = function("mid", ("call", "c", "x", "low", (("add", "n", 1),)), ("return", ("mul", "x", 2)))
        top = function("top", ("call", "d", "y", "mid", (("add", "n", 1),)), ("return", ("sub", "y", 1)))
        run = function("run", ("both", "b", (("call", "e", "x", "top", ("n",)),), (("sleep", "z", 1),)), ("return", "x"))
        self.version = version_of(low, mid, top, run)
        self.codes, self.maps = compiled_all(self.version)
        self.index = (0, ("d", 0), ("c", 0), ("a", 0))

    def test_three_calls(self):
        for name, index in (("mid", (0, ("c", 0), ("a", 0))), ("top", self.index), ("run", (0, ("b", 0), ("e", 0), *self.index[1:]))):
            self.check(name, index)

    def check(self, name, index):
        start = (name, (5,), 0)
        done = Execution(self.version, self.codes, "ann", 0, start, {})
        question = done.waits()[index]
        frame, levels = done.frame(), 1
        inner = frame
        while inner[1][2] is not None:
            inner = ("body", inner[1][2][0]) if isinstance(inner[1][2][0], tuple) else inner[1][2]
            levels += 1
        self.assertEqual(levels, {"mid": 2, "top": 3, "run": 5}[name])
        self.assertTrue(is_right_frame(self.codes, self.maps, Run(self.version, "ann", 0, start, {}), frame))
        story = {index: (question, 9, 3)}
        asleep = (*index[:-1], ("s", 0))
        for further in ({}, {asleep: (("sleep", 9), True, 4)}):
            longer = {**story, **further}
            whole = Execution(self.version, self.codes, "ann", 0, start, longer)
            later = Execution.from_frame(self.version, self.codes, "ann", 0, frame, longer)
            self.assertEqual((later.waits(), later.end(), later.come_to()), (whole.waits(), whole.end(), whole.come_to()))
        if name != "run":
            self.assertIsNotNone(later.end())


class StuckTest(unittest.TestCase):
    """Each way of being stuck, with the block that is told."""

    def stuck(self, wanted, *blocks, **more):
        with self.assertRaises(Stuck) as caught:
            do(*blocks, **more)
        self.assertEqual((caught.exception.name, caught.exception.block), wanted)

    def test_ends_that_read_nothing(self):
        for end in (("return", slot(1)), ("branch", slot(1), 0, 0), ("become", "one", (value(1), slot(1)))):
            self.stuck(("run", 0), ((), (), end))
        for end in (
            ("ask", 1, "price", (slot(1),), 1), ("send", slot(1), "paid", value(1), 1), ("sleep", slot(1), 1),
            ("send", value(""), "paid", slot(1), 1), ("start", 1, "one", (slot(1),), 1), ("call", 1, "one", (slot(1),), 1, ()),
        ):
            self.stuck(("run", 1), ((), (), ("jump", 1)), ((("s", 0),), (), end))

    def test_places(self):
        for end in (("sleep", value(1), 1), ("mark", 1, 1), ("receive", 1, "paid", 1), ("call", None, "run", (value(1),), 1, ())):
            place = (("k", slot(1)), ("s", 0))
            self.stuck(("run", 1), ((), (), ("jump", 1)), (place, (), end))
            for number in (10, -1, True, "a"):
                self.stuck(("run", 1), ((), ((1, value(number)),), ("jump", 1)), (place, (), end))
        both = ("both", 2, 2, (), (), 3, ())
        behind = ((("k", slot(1)), ("b", 2)), (), ("return", value(1)))
        self.stuck(("run", 1), ((), (), ("jump", 1)), ((("k", slot(1)), ("b", 0)), (), both), (None, (), ("done",)), behind)

    def test_branches_and_questions(self):
        for datum in (0, 1, "", ("Red",)):
            self.stuck(("run", 0), ((), (), ("branch", value(datum), 0, 0)))
        for end in (("sleep", value(True), 1), ("sleep", value("a"), 1), ("send", value(1), "paid", value(1), 1)):
            self.stuck(("run", 1), ((), (), ("jump", 1)), ((("s", 0),), (), end))

    def test_calls(self):
        call = (((), (), ("jump", 1)), ((("c", 0),), (), ("call", 1, "one", (value(1),), 1, ())))
        self.stuck(("run", 1), *call)
        self.stuck(("run", 1), *call, more=(code_of(((), (), ("return", value(1))), name="one", parameters=2),))

    def test_leaving(self):
        self.stuck(("run", 1), ((), (), ("jump", 1)), (None, (), ("done",)))
        for end in (("return", value(1)), ("become", "run", (value(1),))):
            self.stuck(("run", 2), ((), (), ("jump", 1)), ((("b", 0),), (), ("both", 2, 2, (), (), 3, ())), (None, (), end),
                       ((("b", 2),), (), ("return", value(1))))
        call = (((), (), ("jump", 1)), ((("c", 0),), (), ("call", 1, "one", (value(1),), 1, ())))
        self.stuck(("one", 0), *call, more=(code_of(((), (), ("become", "run", (value(1),))), name="one"),))
        one = code_of(((), (), ("jump", 1)), (None, (), ("done",)), name="one")
        self.stuck(("one", 1), *call, more=(one,))

    def test_returns_in_functions_that_a_body_calls(self):
        done = do(
            ((), (), ("jump", 1)), ((("b", 0),), (), ("both", 2, 4, (), (), 3, ())),
            ((("b", 0), ("c", 0)), (), ("call", 1, "one", (value(1),), 4, ())), ((("b", 2),), (), ("return", value(9))),
            (None, (), ("done",)), more=(code_of(((), (), ("return", value(1))), name="one"),))
        self.assertEqual(done.end(), ("result", 9))

    def test_twenty_thousand_blocks(self):
        turn = (None, ((1, ("add", slot(1), value(1))), (2, ("less", slot(1), slot(3)))), ("branch", slot(2), 1, 2))
        for rounds, stuck in ((19998, False), (19999, True)):
            blocks = (((), ((1, value(0)), (3, value(rounds))), ("jump", 1)), turn, (None, (), ("return", slot(1))))
            if stuck:
                self.stuck(("run", 2), *blocks)
            else:
                done = do(*blocks)
                self.assertEqual((done.end(), done.blocks_done), (("result", rounds), 20000))

    def nest(self, depth):
        """Functions that call each other, so many calls within each other."""
        names = ["f" + one + other for one in "abcdefgh" for other in "abcdefghij"][:depth]
        codes = {}
        for name, further in zip(names, names[1:] + [None]):
            block = (None, (), ("return", slot(0))) if further is None else (
                (("c", 0),), (), ("call", 0, further, (slot(0),), 2, ()))
            codes[name] = code_of(((), (), ("jump", 1)), block, (None, (), ("return", slot(0))), name=name)
        codes["run"] = code_of(((), (), ("jump", 1)), ((("c", 0),), (), ("call", 0, names[0], (slot(0),), 2, ())),
                               (None, (), ("return", slot(0))))
        return codes

    def test_sixty_calls(self):
        self.assertEqual(Execution(PLAIN, self.nest(60), "ann", 0, BEGIN, {}).end(), ("result", 7))
        with self.assertRaises(Stuck) as caught:
            Execution(PLAIN, self.nest(61), "ann", 0, BEGIN, {})
        self.assertEqual((caught.exception.name, caught.exception.block), ("ffj", 1))

    def test_sixty_with_a_body(self):
        codes = self.nest(60)
        last = "ffj"
        blocks = (((), (), ("jump", 1)), ((("b", 0),), (), ("both", 2, 2, (), (), 3, ())), (None, (), ("done",)),
                  ((("b", 2),), (), ("return", slot(0))))
        codes[last] = code_of(*blocks, name=last)
        with self.assertRaises(Stuck) as caught:
            Execution(PLAIN, codes, "ann", 0, BEGIN, {})
        self.assertEqual((caught.exception.name, caught.exception.block), (last, 1))


class ErrorsTest(unittest.TestCase):
    def setUp(self):
        self.codes, _ = compiled_all(VERSION)
        self.frame = Execution(VERSION, self.codes, "ann", 0, START, {}).frame()

    def raises(self, error, *arguments, field="value", **more):
        with self.assertRaises(error) as caught:
            Execution(VERSION, *arguments, **more)
        return getattr(caught.exception, field)

    def test_codes_come_first(self):
        for value_passed in (*ODD, {"buy": 1}, {1: DOUBLE}):
            if isinstance(value_passed, dict) and not value_passed:
                continue
            self.assertIsNone(self.raises(InvalidCodes, value_passed, 5, -1, 0, 0, field="name"))
        wrong = {"one": DOUBLE, "buy": DOUBLE, "ask": 1}
        self.assertIsNone(self.raises(InvalidCodes, wrong, 5, -1, 0, 0, field="name"))
        wrong = {"zoo": DOUBLE, "one": DOUBLE, "buy": DOUBLE}
        self.assertEqual(self.raises(InvalidCodes, wrong, 5, -1, 0, 0, field="name"), "one")

    def test_then_those_of_a_run(self):
        for odd in (None, 5, "a\n", b"a"):
            self.assertIs(self.raises(InvalidTask, self.codes, odd, -1, 0, 0), odd)
        for odd in (None, -1, True, "a"):
            self.assertIs(self.raises(InvalidEpoch, self.codes, "ann", odd, 0, 0), odd)
        for odd in (*ODD, ("buy", (True,), 0), ("nope", (), 0)):
            self.assertIs(self.raises(InvalidStart, self.codes, "ann", 0, odd, 0), odd)
        for odd in (None, [], {1: 2}, {(1, ("a", 0)): (("sleep", 1), True, 0)}):
            self.assertIs(self.raises(InvalidStory, self.codes, "ann", 0, START, odd), odd)

    def test_then_the_function_of_the_start(self):
        self.assertEqual(self.raises(InvalidCodes, {}, "ann", 0, START, {}, field="name"), "buy")
        two = ("buy", 2, 2, DOUBLE[3])
        self.assertEqual(self.raises(InvalidCodes, {"buy": two}, "ann", 0, START, {}, field="name"), "buy")

    def test_from_frame(self):
        def raised(error, *arguments, field="value"):
            with self.assertRaises(error) as caught:
                Execution.from_frame(VERSION, *arguments)
            return getattr(caught.exception, field)
        self.assertIsNone(raised(InvalidCodes, 5, 5, -1, 0, 0, field="name"))
        self.assertEqual(raised(InvalidCodes, {"one": DOUBLE}, 5, -1, 0, 0, field="name"), "one")
        self.assertEqual(raised(InvalidTask, self.codes, 5, -1, 0, 0), 5)
        self.assertEqual(raised(InvalidEpoch, self.codes, "ann", -1, 0, 0), -1)
        for odd in (*ODD, START, ("nope", self.frame[1]), ("buy", (self.frame[1][0], 0, None))):
            self.assertIs(raised(InvalidFrame, self.codes, "ann", 0, odd, 0), odd)
        self.assertEqual(raised(InvalidStory, self.codes, "ann", 0, self.frame, 5), 5)
        broken = {"buy": ("buy", 1, 1, (((), (), ("jump", 1)), ((("a", 0),), (), ("ask", 0, "price", (slot(0),), 1))))}
        with self.assertRaises(Stuck):
            Execution.from_frame(VERSION, broken, "ann", 0, ("buy", ((None,), 1, None)), {})

    def test_nothing_is_shared_or_changed(self):
        story = {(0, ("a", 0)): (("ask", "price", (3,)), 7, 12)}
        before, codes = dict(story), dict(self.codes)
        done = Execution(VERSION, self.codes, "ann", 0, START, story)
        done.waits().clear()
        done.differences()["x"] = 1
        done.come_to().clear()
        done.passed().append(1)
        self.assertEqual((story, self.codes), (before, codes))
        story.clear()
        self.assertEqual((len(done.waits()), done.differences(), len(done.come_to()), done.passed()), (2, {}, 1, []))
        self.assertEqual(done.frame(), done.frame())
        again = Execution.from_frame(version=VERSION, codes=self.codes, name="ann", epoch=0, frame=self.frame, story=before)
        self.assertEqual(again.waits(), done.waits())
