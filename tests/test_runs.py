"""heldover.runs: what plain runs come to, statement by statement."""

import itertools
import unittest

from heldover.errors import InvalidEpoch, InvalidStart, InvalidStory, InvalidTask, UnknownStep
from heldover.runs import Run, is_start
from heldover.versions import Version
from tests.anything import ODD, nested
from tests.samples import function, module, version_of, version_with

BUY = ("buy", (("n", "int"),), (("p", "int"), ("ok", "bool")), "int", (
    ("ask", "a", "p", "price", ("n",)), ("both", "b", (("sleep", "w", 5),), (("receive", "r", "ok", "paid"),)),
    ("return", ("add", "p", "n"))))
VERSION = Version([("shop", (), (), (("price", ("int",), "int"),), (("paid", "bool"),), (BUY,))])
START = ("buy", (3,), 10)
FIRST = {(0, ("a", 0)): (("ask", "price", (3,)), 7, 12)}
A, W, R = (0, ("a", 0)), (0, ("b", 0), ("w", 0)), (0, ("b", 1), ("r", 0))
WHOLE = {**FIRST, W: (("sleep", 5), True, 17), R: (("receive", "paid"), (("bob", A), True), 14)}


def at(*parts):
    """An index of epoch 0; a part may be a label alone."""
    return (0, *[part if isinstance(part, tuple) else (part, 0) for part in parts])


def run_of(version, story=None, *args, name="ann", began=0):
    """The run of the last function, with 0 for n if no args are passed."""
    function_name = version.names()[-1]
    return Run(version, name, 0, (function_name, args or (0,), began), story or {})


def ask(value, answer, moment=0):
    return (("ask", "price", (value,)), answer, moment)


def flag(answer, moment=0):
    return (("ask", "flag", ()), answer, moment)


def slept(minutes, moment=0):
    return (("sleep", minutes), True, moment)


def received(key, value, moment=0):
    return (("receive", key), (("", A), value), moment)


class RunTest(unittest.TestCase):
    def check(self, run, end=None, waits=None, state="closed", differences=None, missed=()):
        self.assertEqual(run.end(), end)
        if end is not None and end[0] == "result":
            self.assertIs(isinstance(run.end()[1], bool), isinstance(end[1], bool))
        self.assertEqual(run.waits(), waits or {})
        self.assertEqual(run.state, state)
        self.assertEqual(run.differences(), differences or {})
        self.assertEqual(run.missed(), sorted(missed))

    def result(self, value, *body, story=None):
        """A function with this body returns the value; the story is closed."""
        self.check(run_of(version_with(*body), story), ("result", value))


class ExampleTest(RunTest):
    def test_the_example(self):
        later = Run(VERSION, "ann", 0, START, FIRST)
        self.assertEqual(
            [later.state, later.end(), later.waits(), later.moment((0, ("b", 1), ("r", 0)))],
            ["closed", None, {(0, ("b", 0), ("w", 0)): ("sleep", 5), (0, ("b", 1), ("r", 0)): ("receive", "paid")}, 12],
        )

    def test_entry_by_entry(self):
        run = Run(VERSION, "ann", 0, START, {})
        self.check(run, waits={A: ("ask", "price", (3,))})
        run = Run(VERSION, "ann", 0, START, {A: (("ask", "price", (3,)), None, None)})
        self.check(run, waits={A: ("ask", "price", (3,))})
        self.assertEqual(run.come_to(), [A])
        run = Run(VERSION, "ann", 0, START, {**FIRST, W: WHOLE[W]})
        self.check(run, waits={R: ("receive", "paid")})
        run = Run(VERSION, "ann", 0, START, {**FIRST, R: WHOLE[R]})
        self.check(run, waits={W: ("sleep", 5)})
        run = Run(VERSION, "ann", 0, START, WHOLE)
        self.check(run, ("result", 10))
        self.assertEqual(run.end_moment, 17)
        self.assertEqual(run.come_to(), sorted(WHOLE))
        self.assertIsNone(run.tree())

    def test_every_order_of_the_entries(self):
        expected = Run(VERSION, "ann", 0, START, WHOLE)
        for order in itertools.permutations(WHOLE):
            run = Run(VERSION, "ann", 0, START, {index: WHOLE[index] for index in order})
            self.assertEqual(run, expected)
            self.assertEqual(run.end(), expected.end())
            self.assertEqual(list(run.story().items()), list(expected.story().items()))
        for count in range(4):
            for some in itertools.permutations(WHOLE, count):
                run = Run(VERSION, "ann", 0, START, {index: WHOLE[index] for index in some})
                again = Run(VERSION, "ann", 0, START, {index: WHOLE[index] for index in sorted(some)})
                self.assertEqual((run.waits(), run.missed(), run.come_to(), run.state, run.tree()),
                                 (again.waits(), again.missed(), again.come_to(), again.state, again.tree()))
                missing = A not in some
                self.assertEqual(run.missed(), sorted(some) if missing else [])
                self.assertEqual(run.state, "ahead" if missing and some else "closed")


class ConstructionTest(RunTest):
    def test_attributes(self):
        run = Run(VERSION, "ann", 3, START, {})
        self.assertEqual((run.version, run.name, run.epoch, run.start), (VERSION, "ann", 3, START))
        self.assertEqual((run.state, run.end_moment), ("closed", None))
        by_name = Run(version=VERSION, name="ann", epoch=3, start=START, story={})
        self.assertEqual(by_name, run)

    def refused(self, error, name, epoch, start, story, value):
        with self.assertRaises(error) as caught:
            Run(VERSION, name, epoch, start, story)
        self.assertIs(caught.exception.value, value)

    def test_any_values(self):
        for value in ODD:
            if not isinstance(value, str) or value == "\n":
                self.refused(InvalidTask, value, value, value, value, value)
            if isinstance(value, bool) or not isinstance(value, int) or not 0 <= value <= 10 ** 9:
                self.refused(InvalidEpoch, "ann", value, value, value, value)
            self.refused(InvalidStart, "ann", 0, value, value, value)
            if not isinstance(value, dict) or value:
                self.refused(InvalidStory, "ann", 0, START, value, value)
        for name in ("x" * 201, 'a"', "%", "\\"):
            self.refused(InvalidTask, name, 0, START, {}, name)
        for epoch in (10 ** 9 + 1, -1, True, "0"):
            self.refused(InvalidEpoch, "ann", epoch, START, {}, epoch)
        other = {(1, ("a", 0)): FIRST[A]}
        self.refused(InvalidStory, "ann", 0, START, other, other)
        Run(VERSION, "x" * 200, 10 ** 9, START, {})
        Run(VERSION, "", 0, START, {})

    def test_is_start(self):
        self.assertIs(is_start(VERSION, START), True)
        self.assertIs(is_start(VERSION, ("buy", (10 ** 20,), 0)), True)
        for value in (
            (*ODD, ["buy", (3,), 10], ("buy", [3], 10), ("buy", (3,)), ("buy", (3,), 10, 1), ("sell", (3,), 10), ("buy", (), 10),
             ("buy", (3, 3), 10), ("buy", (True,), 10), ("buy", ("3",), 10), ("buy", (3,), -1), ("buy", (3,), True),
             ("buy", (3,), None), ("buy", nested(1200), 0), ("price", (3,), 0))
        ):
            self.assertIs(is_start(VERSION, value), False)
            self.refused(InvalidStart, "ann", 0, value, {}, value)
        for value in ODD:
            self.assertIs(is_start(VERSION, (value, (3,), 10)), False)
            self.assertIs(is_start(VERSION, ("buy", value, 10)), False)
            integer = isinstance(value, int) and not isinstance(value, bool)
            self.assertIs(is_start(VERSION, ("buy", (value,), 10)), integer)
            self.assertIs(is_start(version=VERSION, value=("buy", (3,), value)), integer and value >= 0)

    def test_equality(self):
        run = Run(VERSION, "ann", 0, START, FIRST)
        self.assertEqual(run, Run(VERSION, "ann", 0, START, dict(FIRST)))
        self.assertEqual(run, Run(Version(VERSION.modules()), "ann", 0, START, FIRST))
        for other in (Run(VERSION, "bob", 0, START, FIRST), Run(VERSION, "ann", 0, ("buy", (3,), 11), FIRST),
                      Run(VERSION, "ann", 0, START, {}), Run(VERSION, "ann", 0, START, WHOLE),
                      Run(VERSION, "ann", 0, START, {A: (("ask", "price", (3,)), 8, 12)}),
                      Run(VERSION, "ann", 0, START, {A: (("ask", "price", (3,)), 7, 13)})):
            self.assertNotEqual(run, other)
        self.assertNotEqual(Run(VERSION, "ann", 0, START, {}), Run(VERSION, "ann", 1, START, {}))
        for value in (None, "ann", FIRST, ("ann", 0, START, FIRST), VERSION):
            self.assertNotEqual(run, value)
        other = Version([module(("buy", *BUY[1:]), kinds=(), doors=(("price", ("int",), "int"),), keys=(("paid", "bool"),),
                                name="other")])
        self.assertNotEqual(run, Run(other, "ann", 0, START, FIRST))

    def test_equality_tells_true_from_one(self):
        stories = [{A: (("ask", "price", (3,)), answer, 1)} for answer in (1, True)]
        self.assertNotEqual(*[Run(VERSION, "ann", 0, START, story) for story in stories])
        stories = [{A: (("ask", "price", (value,)), 1, 1)} for value in (0, False)]
        self.assertNotEqual(*[Run(VERSION, "ann", 0, START, story) for story in stories])
        stories = [{A: (("receive", "paid"), (("", A), ("Red", value)), 1)} for value in (1, True)]
        self.assertNotEqual(*[Run(VERSION, "ann", 0, START, story) for story in stories])
        open_ask = {A: (("ask", "price", (3,)), None, None)}
        self.assertEqual(Run(VERSION, "ann", 0, START, open_ask), Run(VERSION, "ann", 0, START, dict(open_ask)))
        self.assertNotEqual(Run(VERSION, "ann", 0, START, open_ask), Run(VERSION, "ann", 0, START, FIRST))
        self.assertNotEqual(Run(VERSION, "ann", 0, START, FIRST), Run(VERSION, "ann", 0, START, open_ask))

    def test_story_is_a_copy(self):
        story = dict(FIRST)
        run = Run(VERSION, "ann", 0, START, story)
        story[W] = WHOLE[W]
        run.story()[R] = WHOLE[R]
        self.assertEqual(run.story(), FIRST)
        self.assertEqual(set(run.waits()), {W, R})

    def test_what_is_returned_is_new(self):
        run = Run(VERSION, "ann", 0, START, FIRST)
        before = (run.waits(), run.differences(), run.come_to(), run.missed(), run.passed(), run.way(W), run.frames(W), run.tree())
        run.waits().clear()
        run.differences()[A] = 1
        for found in (run.come_to(), run.missed(), run.passed(), run.way(W), run.frames(W)):
            found.append(1)
        run.frames(W)[0][2]["p"] = 99
        run.tree()[1][1]["p"] = 99
        run.tree()[1][2][0][1]["p"] = 99
        after = (run.waits(), run.differences(), run.come_to(), run.missed(), run.passed(), run.way(W), run.frames(W), run.tree())
        self.assertEqual(before, after)


class StatementsTest(RunTest):
    def test_zeros(self):
        for variable, kind, value in (("x", "int", 0), ("ok", "bool", False), ("t", "task", ""), ("c", "color", ("Red",))):
            one = function("run", ("return", variable), result=kind)
            self.check(run_of(version_of(one)), ("result", value))
            self.check(run_of(version_of(function("run", result=kind))), ("result", value))
        self.check(run_of(version_with(("return", "n")), {}, 5), ("result", 5))

    def test_self(self):
        one = function("run", ("return", ("self",)), result="task")
        self.check(run_of(version_of(one), name="bob/0/a.0"), ("result", "bob/0/a.0"))

    def test_set_and_if(self):
        for truth, value in ((True, 1), (False, 2)):
            self.result(value, ("if", truth, (("set", "x", 1),), (("set", "x", 2),)), ("return", "x"))
        self.result(3, ("set", "x", 2), ("set", "x", ("add", "x", 1)), ("return", "x"))

    def test_match(self):
        cases = (("Red", (), (("set", "x", 5),)), ("Mix", ("x", "t"), (("set", "x", ("add", "x", 1)),)))
        self.result(5, ("match", "c", cases), ("return", "x"))
        self.result(8, ("match", ("tag", "Mix", 7, ("self",)), cases), ("return", "x"))
        self.result(2, ("set", "x", 1), ("set", "y", 2), ("match", ("tag", "Mix", "y", "t"), cases[:1] + (("Mix", ("x", "t"), ()),)),
                    ("return", "x"))

    def test_loops_and_breaks(self):
        count = ("set", "x", ("add", "x", 1))
        for rounds in (1, 9):
            self.result(rounds, ("loop", "k", rounds, (count,)), ("return", "x"))
        self.result(4, ("loop", "k", 9, (count, ("if", ("less", 3, "x"), (("break",),), ()))), ("return", "x"))
        inner = ("loop", "i", 5, (count, ("break",)))
        self.result(3, ("loop", "o", 3, (inner,)), ("return", "x"))
        self.result(7, ("loop", "o", 3, (count, ("return", 7))), ("return", "x"))

    def test_rounds_are_in_indexes(self):
        version = version_with(("loop", "k", 3, (("ask", "a", "x", "price", ("x",)), ("if", ("less", 5, "x"), (("break",),), ()))),
                               ("return", "x"))
        story = {}
        for number, value in enumerate((1, 2, 3)):
            index = at(("k", number), "a")
            before = number
            self.check(run_of(version, story), waits={index: ("ask", "price", (before,))})
            story[index] = ask(before, value)
        self.check(run_of(version, story), ("result", 3))
        short = {at("k", "a"): ask(0, 9)}
        self.check(run_of(version, short), ("result", 9))

    def test_errors(self):
        self.check(run_of(version_with(("raise", "dear"))), ("error", "dear"))
        try_it = ("try", "t", (("set", "x", 1), ("raise", "dear")), (("late", (("return", 8),)), ("dear", (("set", "y", "x"),))))
        self.result(1, try_it, ("return", "y"))
        again = ("try", "t", (("raise", "dear"),), (("dear", (("raise", "dear"),)),))
        self.check(run_of(version_with(again)), ("error", "dear"))
        outer = ("try", "o", (again,), (("dear", (("return", 4),)),))
        self.result(4, outer)
        self.result(5, ("try", "t", (("return", 5),), (("dear", ()),)))
        self.result(6, ("loop", "k", 3, (("try", "t", (("break",),), (("dear", ()),)),)), ("return", 6))

    def test_handlers_in_indexes(self):
        version = version_with(
            ("try", "t", (("ask", "a", "x", "price", (1,)), ("if", ("less", "x", 0), (("raise", "dear"),), (("raise", "late"),))),
             (("late", (("sleep", "s", 1),)), ("dear", (("sleep", "z", 2),)))))
        self.check(run_of(version), waits={at("t", "a"): ("ask", "price", (1,))})
        self.check(run_of(version, {at("t", "a"): ask(1, 5)}), waits={at(("t", 1), "s"): ("sleep", 1)})
        self.check(run_of(version, {at("t", "a"): ask(1, -5)}), waits={at(("t", 2), "z"): ("sleep", 2)})

    def test_calls(self):
        one = function("one", ("ask", "a", "x", "price", ("n",)), ("if", ("less", "x", 0), (("raise", "dear"),), ()),
                       ("return", ("mul", "x", 2)))
        two = function("two", ("loop", "k", 2, (("call", "c", "y", "one", (("add", "n", 1),)),)), ("return", "y"))
        three = function("three", ("try", "t", (("call", "d", "x", "two", (5,)),), (("dear", (("return", -1),)),)), ("return", "x"))
        version = version_of(one, two, three)
        first, second = at("t", "d", "k", "c", "a"), at("t", "d", ("k", 1), "c", "a")
        self.check(run_of(version), waits={first: ("ask", "price", (6,))})
        self.check(run_of(version, {first: ask(6, 4)}), waits={second: ("ask", "price", (6,))})
        self.check(run_of(version, {first: ask(6, 4), second: ask(6, 5)}), ("result", 10))
        self.check(run_of(version, {first: ask(6, -4)}), ("result", -1))
        missed = {first: ask(6, -4), second: ask(6, 5)}
        self.check(run_of(version, missed), ("result", -1), state="different", missed=[second],
                   differences={second: ("missed", missed[second][0])})

    def test_outer_statements(self):
        version = version_with(
            ("ask", "a", "c", "pick", ()), ("send", "m", ("self",), "hue", "c"), ("receive", "r", "x", "num"),
            ("sleep", "w", ("sub", 2, "x")), ("start", "s", "t", "run", ("x",)), ("send", "u", "t", "num", "x"), ("return", "x"))
        pick = (("ask", "pick", ()), ("Mix", 1, "bob"), 1)
        story = {}
        for label, question, entry in (
            ("a", ("ask", "pick", ()), pick), ("m", ("send", "ann", "hue", ("Mix", 1, "bob")), None),
            ("r", ("receive", "num"), received("num", 5)), ("w", ("sleep", 0), None),
            ("s", ("start", "run", (5,)), (("start", "run", (5,)), "ann/0/s.0", 3)),
            ("u", ("send", "ann/0/s.0", "num", 5), None),
        ):
            self.check(run_of(version, story), waits={at(label): question})
            story[at(label)] = entry or (question, True, 2)
        self.check(run_of(version, story), ("result", 5))

    def test_negative_minutes(self):
        for minutes, asked in ((-7, 0), (0, 0), (7, 7)):
            version = version_with(("sleep", "w", "n"))
            self.check(run_of(version, {}, minutes), waits={at("w"): ("sleep", asked)})

    def test_become(self):
        version = version_with(("sleep", "w", 1), ("become", "run", (("add", "n", 1),)))
        self.check(run_of(version, {at("w"): slept(1, 4)}, 6), ("become", "run", (7,)))
        run = run_of(version, {at("w"): slept(1, 4)}, 6)
        self.assertEqual(run.end_moment, 4)
        self.assertIsNone(run.tree())


class DifferencesTest(RunTest):
    def setUp(self):
        self.version = version_with(("ask", "a", "x", "price", (1,)), ("receive", "r", "ok", "paid"), ("return", "x"))

    def test_another_question(self):
        for question, answer in ((("ask", "price", (2,)), 5), (("ask", "price", (True,)), 5), (("ask", "flag", ()), True),
                                 (("sleep", 1), True), (("receive", "paid"), (("", A), True)), (("start", "run", (1,)), "x")):
            run = run_of(self.version, {at("a"): (question, answer, 1)})
            self.check(run, state="different", differences={at("a"): ("question", ("ask", "price", (1,)))}, missed=[at("a")])
            self.assertEqual(run.come_to(), [])
        run = run_of(self.version, {at("a"): (("ask", "price", (2,)), None, None)})
        self.check(run, state="different", differences={at("a"): ("question", ("ask", "price", (1,)))}, missed=[at("a")])

    def test_the_entry_of_a_mark_at_another_statement(self):
        run = run_of(self.version, {at("a"): (("mark",), True, 1)})
        self.check(run, state="different", differences={at("a"): ("question", ("ask", "price", (1,)))})

    def test_an_answer_that_does_not_fit(self):
        for answer in (True, "x", ("Red",), False):
            run = run_of(self.version, {at("a"): ask(1, answer)})
            self.check(run, state="different", differences={at("a"): ("answer", ("ask", "price", (1,)))}, missed=[at("a")])
        for value in (1, 0, "x", ("Red",)):
            story = {at("a"): ask(1, 5), at("r"): received("paid", value)}
            run = run_of(self.version, story)
            self.check(run, state="different", differences={at("r"): ("answer", ("receive", "paid"))}, missed=[at("r")])
            self.assertEqual(run.come_to(), [at("a")])

    def test_missed_entries(self):
        extra = {at("z"): slept(1), at("y"): slept(2), at("m"): (("mark",), True, 0)}
        self.check(run_of(self.version, extra), waits={at("a"): ("ask", "price", (1,))}, state="ahead", missed=[at("y"), at("z")])
        whole = {at("a"): ask(1, 5), at("r"): received("paid", True), **extra}
        self.check(run_of(self.version, whole), ("result", 5), state="different", differences={at("y"): ("missed", ("sleep", 2))},
                   missed=[at("y"), at("z")])
        behind = {at("r"): received("paid", True)}
        self.check(run_of(self.version, behind), waits={at("a"): ("ask", "price", (1,))}, state="ahead", missed=[at("r")])
        wrong = {at("a"): ask(2, 5), at("r"): received("paid", True), at("z"): slept(1)}
        self.check(run_of(self.version, wrong), state="different", differences={at("a"): ("question", ("ask", "price", (1,)))},
                   missed=[at("a"), at("r"), at("z")])

    def test_several_differences(self):
        version = version_with(("both", "b", (("ask", "a", "x", "price", (1,)),), (("ask", "c", "ok", "flag", ()),)))
        one, other = at("b", "a"), at(("b", 1), "c")
        run = run_of(version, {one: ask(2, 1), other: flag(5)})
        self.check(run, state="different", missed=[one, other],
                   differences={one: ("question", ("ask", "price", (1,))), other: ("answer", ("ask", "flag", ()))})

    def test_open_asks(self):
        version = version_with(("both", "b", (("ask", "a", "x", "price", (1,)),), (("ask", "c", "ok", "flag", ()),)))
        one, other = at("b", "a"), at(("b", 1), "c")
        run = run_of(version, {one: (("ask", "price", (1,)), None, None)})
        self.check(run, waits={one: ("ask", "price", (1,)), other: ("ask", "flag", ())})
        self.assertEqual(run.come_to(), [one])


class BothTest(RunTest):
    def test_values_of_the_bodies(self):
        version = version_with(
            ("set", "x", 1), ("set", "y", 2),
            ("both", "b", (("ask", "a", "x", "price", ("x",)),), (("set", "y", ("add", "y", 5)), ("ask", "c", "ok", "flag", ()))),
            ("return", ("add", ("mul", "x", 100), "y")))
        one, other = at("b", "a"), at(("b", 1), "c")
        self.check(run_of(version), waits={one: ("ask", "price", (1,)), other: ("ask", "flag", ())})
        self.check(run_of(version, {other: flag(True)}), waits={one: ("ask", "price", (1,))})
        self.check(run_of(version, {one: ask(1, 3)}), waits={other: ("ask", "flag", ())})
        self.check(run_of(version, {one: ask(1, 3), other: flag(True)}), ("result", 307))

    def test_errors(self):
        def body(error, label):
            return (("sleep", label, 1), ("raise", error)) if error else (("sleep", label, 1),)
        one, other = at("t", "b", "p"), at("t", ("b", 1), "q")
        for ours, theirs, end in (("dear", None, 1), (None, "dear", 1), ("dear", "late", 1), ("late", "dear", 2), (None, None, 0)):
            both = ("both", "b", body(ours, "p"), body(theirs, "q"))
            version = version_with(("try", "t", (both,), (("dear", (("return", 1),)), ("late", (("return", 2),)))))
            self.check(run_of(version, {one: slept(1)}), waits={other: ("sleep", 1)})
            self.check(run_of(version, {other: slept(1)}), waits={one: ("sleep", 1)})
            self.check(run_of(version, {one: slept(1), other: slept(1)}), ("result", end))
        version = version_with(("both", "b", (("raise", "dear"),), (("raise", "late"),)))
        self.check(run_of(version), ("error", "dear"))

    def test_the_other_body_goes_on_whatever_the_first_one_does(self):
        version = version_with(("both", "b", (("ask", "a", "x", "price", (1,)), ("raise", "dear")),
                                (("sleep", "p", 1), ("sleep", "q", 2))))
        one, two, three = at("b", "a"), at(("b", 1), "p"), at(("b", 1), "q")
        for first in ({}, {one: ask(1, 5)}, {one: ask(2, 5)}, {one: ask(1, True)}):
            waits = {} if first else {one: ("ask", "price", (1,))}
            run = run_of(version, {**first, two: slept(1)})
            self.assertEqual(run.waits(), {**waits, three: ("sleep", 2)})
            self.assertIsNone(run.end())

    def test_what_was_set_before_an_error(self):
        both = ("both", "b", (("set", "x", 7), ("raise", "dear")), (("set", "y", 3),))
        self.result(73, ("try", "t", (both,), (("dear", (("return", ("add", ("mul", "x", 10), "y")),)),)))
        caught = ("try", "t", (("set", "x", 7), ("raise", "dear")), (("dear", (("set", "x", ("add", "x", 1)),)),))
        self.result(83, ("both", "b", (caught,), (("set", "y", 3),)), ("return", ("add", ("mul", "x", 10), "y")))

    def test_within_loops_and_callees(self):
        one = function("one", ("both", "b", (("ask", "a", "x", "price", ("n",)),), (("ask", "c", "y", "price", (0,)),)),
                       ("return", ("add", "x", "y")))
        two = function("two", ("loop", "k", 2, (("both", "o", (("call", "d", "x", "one", ("x",)),), (("sleep", "s", 1),)),)), ("return", "x"))
        version = version_of(one, two)
        waits = run_of(version).waits()
        self.assertEqual(waits, {
            at("k", "o", "d", "b", "a"): ("ask", "price", (0,)), at("k", "o", "d", ("b", 1), "c"): ("ask", "price", (0,)),
            at("k", ("o", 1), "s"): ("sleep", 1)})
        story = {at("k", "o", "d", "b", "a"): ask(0, 4), at("k", "o", "d", ("b", 1), "c"): ask(0, 5), at("k", ("o", 1), "s"): slept(1)}
        run = run_of(version, story)
        self.assertEqual(set(run.waits()), {at(("k", 1), "o", "d", "b", "a"), at(("k", 1), "o", "d", ("b", 1), "c"),
                                            at(("k", 1), ("o", 1), "s")})
        self.assertEqual(run.waits()[at(("k", 1), "o", "d", "b", "a")], ("ask", "price", (9,)))

    def test_within_each_other(self):
        inner = ("both", "i", (("set", "x", 1),), (("set", "y", 2),))
        self.result(12, ("both", "o", (inner,), (("set", "ok", True),)), ("if", "ok", (("return", ("add", ("mul", "x", 10), "y")),), ()))


class WaysTest(RunTest):
    def test_ways_and_moments(self):
        version = version_with(
            ("sleep", "p", 1),
            ("both", "b", (("ask", "a", "x", "price", (1,)), ("sleep", "q", 2)), (("ask", "c", "ok", "flag", ()), ("sleep", "r", 3))),
            ("sleep", "z", 4))
        p, a, q, c, r, z = at("p"), at("b", "a"), at("b", "q"), at(("b", 1), "c"), at(("b", 1), "r"), at("z")
        story = {p: slept(1, 20), a: ask(1, 5, 3), q: slept(2, 50), c: flag(True, 40), r: slept(3, 30)}
        run = run_of(version, story, began=7)
        self.assertEqual([run.way(one) for one in (p, a, q, c, r, z)],
                         [sorted(one) for one in ([], [p], [p, a], [p], [p, c], story)])
        self.assertEqual([run.moment(one) for one in (p, a, q, c, r, z)], [7, 20, 20, 20, 40, 50])
        self.assertIsNone(run.end_moment)
        ended = run_of(version, {**story, z: slept(4, 8)}, began=7)
        self.assertEqual(ended.end_moment, 50)
        self.assertEqual(run_of(version_with(), began=9).end_moment, 9)

    def test_the_way_in_any_order_of_moments(self):
        version = version_with(("sleep", "p", 1), ("sleep", "q", 2), ("sleep", "r", 3))
        run = run_of(version, {at("p"): slept(1, 90), at("q"): slept(2, 5)}, began=30)
        self.assertEqual([run.moment(at(label)) for label in "pqr"], [30, 90, 90])

    def test_open_asks_are_not_on_the_way(self):
        version = version_with(("ask", "a", "x", "price", (1,)))
        run = run_of(version, {at("a"): (("ask", "price", (1,)), None, None)}, began=3)
        self.assertEqual((run.way(at("a")), run.moment(at("a"))), ([], 3))

    def test_the_way_behind_errors_and_in_callees(self):
        one = function("one", ("sleep", "s", "n"), ("raise", "dear"))
        two = function("two", ("sleep", "p", 1), ("try", "t", (("call", "c", "x", "one", (2,)),), (("dear", (("sleep", "h", 3),)),)),
                       ("sleep", "z", 4))
        version = version_of(one, two)
        story = {at("p"): slept(1, 1), at("t", "c", "s"): slept(2, 2), at(("t", 1), "h"): slept(3, 3)}
        run = run_of(version, story)
        self.assertEqual(run.way(at("t", "c", "s")), [at("p")])
        self.assertEqual(run.way(at(("t", 1), "h")), sorted([at("p"), at("t", "c", "s")]))
        self.assertEqual(run.way(at("z")), sorted(story))

    def test_unknown_steps(self):
        version = version_with(("sleep", "p", 1), ("sleep", "q", 2), ("loop", "k", 2, (("sleep", "r", 1),)))
        run = run_of(version, {at("q"): slept(2)})
        for index in (*ODD, at("q"), at("r"), at("k"), at("k", "r"), (1, ("p", 0)), (False, ("p", 0)), (0, ("p", False)), nested(1000)):
            for call in (run.way, run.moment, run.frames):
                with self.assertRaises(UnknownStep) as caught:
                    call(index)
                self.assertIs(caught.exception.value, index)
        self.assertEqual(run.way(index=at("p")), [])
        self.assertEqual(run.moment(index=at("p")), 0)
        ended = run_of(version_with(), {at("p"): slept(1)})
        self.assertEqual(ended.differences(), {at("p"): ("missed", ("sleep", 1))})
        self.assertRaises(UnknownStep, ended.frames, at("p"))


class FramesTest(RunTest):
    def values(self, **changed):
        return {"n": 0, "x": 0, "y": 0, "ok": False, "no": False, "t": "", "c": ("Red",), **changed}

    def test_frames_of_calls(self):
        one = function("one", ("ask", "a", "x", "price", ("n",)), ("sleep", "s", 1))
        two = function("two", ("set", "y", 4), ("call", "c", "x", "one", (7,)), ("sleep", "z", 1))
        version = version_of(one, two)
        index = at("c", "a")
        run = run_of(version, {index: ask(7, 9)})
        self.assertEqual(run.frames(index), [("two", "c", self.values(y=4)), ("one", "a", self.values(n=7))])
        self.assertEqual(run.frames(at("c", "s")), [("two", "c", self.values(y=4)), ("one", "s", self.values(n=7, x=9))])
        run = run_of(version, {index: ask(7, 9), at("c", "s"): slept(1)})
        self.assertEqual(run.frames(at("z")), [("two", "z", self.values(y=4, x=0))])
        self.assertEqual(run.frames(index=index), [("two", "c", self.values(y=4)), ("one", "a", self.values(n=7))])
        self.assertEqual(run.tree(), ("two", ((("z", 0),), self.values(y=4), None)))

    def test_frames_in_bodies_of_a_both(self):
        version = version_with(
            ("set", "x", 1), ("both", "b", (("set", "x", 2), ("sleep", "p", 1)), (("set", "y", 3), ("sleep", "q", 1), ("set", "y", 4))),
            ("sleep", "z", 1))
        p, q = at("b", "p"), at(("b", 1), "q")
        run = run_of(version, {q: slept(1)})
        self.assertEqual(run.frames(p), [("run", "p", self.values(x=2))])
        self.assertEqual(run.frames(q), [("run", "q", self.values(x=1, y=3))])
        self.assertEqual(run.tree(), ("run", (
            (("b", 0),), self.values(x=1),
            (((("b", 0), ("p", 0)), self.values(x=2), None), ("ended", self.values(x=1, y=4), None)))))
        behind = run_of(version, {p: slept(1), q: slept(1)})
        self.assertEqual(behind.frames(at("z")), [("run", "z", self.values(x=2, y=4))])

    def test_trees(self):
        one = function("one", ("both", "b", (("sleep", "s", "n"), ("raise", "dear")), (("sleep", "u", 2),)))
        two = function("two", ("loop", "k", 2, (("try", "t", (("call", "c", "x", "one", (1,)),), (("late", ()),)),)))
        version = version_of(one, two)
        around = (("k", 0), ("t", 0), ("c", 0))
        inner = ("one", ((("b", 0),), self.values(n=1), (
            ((("b", 0), ("s", 0)), self.values(n=1), None), ((("b", 1), ("u", 0)), self.values(n=1), None))))
        self.assertEqual(run_of(version).tree(), ("two", (around, self.values(), inner)))
        run = run_of(version, {at("k", "t", "c", "b", "s"): slept(1)})
        inner = ("one", ((("b", 0),), self.values(n=1), (
            ("ended", self.values(n=1), "dear"), ((("b", 1), ("u", 0)), self.values(n=1), None))))
        self.assertEqual(run.tree(), ("two", (around, self.values(), inner)))
        run = run_of(version, {at("k", "t", "c", "b", "s"): slept(2)})
        inner = ("one", ((("b", 0),), self.values(n=1), (
            ((("b", 0), ("s", 0)), self.values(n=1), None), ((("b", 1), ("u", 0)), self.values(n=1), None))))
        self.assertEqual(run.tree(), ("two", (around, self.values(), inner)))

    def test_the_first_round_of_the_second_handler(self):
        version = version_with(("loop", "k", 3, (
            ("set", "x", ("add", "x", 1)), ("try", "t", (("raise", "late"),), (("dear", ()), ("late", (("sleep", "h", "x"),)))))))
        run = run_of(version, {at("k", ("t", 2), "h"): slept(1)})
        index = at(("k", 1), ("t", 2), "h")
        self.assertEqual(run.frames(index), [("run", "h", self.values(x=2))])
        self.assertEqual(run.tree(), ("run", (index[1:], self.values(x=2), None)))

    def test_no_dict_is_shared(self):
        version = version_with(("both", "b", (("sleep", "p", 1),), (("set", "x", 1),)))
        tree = run_of(version).tree()
        dicts = [tree[1][1], tree[1][2][0][1], tree[1][2][1][1]]
        for at_one, one in enumerate(dicts):
            for other in dicts[at_one + 1:]:
                self.assertIsNot(one, other)
        frames = run_of(version).frames(at("b", "p"))
        frames[0][2]["x"] = 5
        self.assertEqual(run_of(version).frames(at("b", "p"))[0][2]["x"], 0)

    def test_calls_in_bodies_of_boths_many_within_each_other(self):
        functions = [function("fa", ("sleep", "s", "n"))]
        for letter, before in zip("bcdefghijklmnopqrstuvwx", "abcdefghijklmnopqrstuvw"):
            body = ("call", "c", "x", "f" + before, (("add", "n", 1),))
            for label in "klmo":
                body = ("both", label, (body,), ())
            functions.append(function("f" + letter, body))
        run = run_of(version_of(*functions))
        around = [("o", 0), ("m", 0), ("l", 0), ("k", 0), ("c", 0)]
        self.assertEqual(run.waits(), {(0, *around * 23, ("s", 0)): ("sleep", 23)})
        self.assertEqual(len(run.frames(list(run.waits())[0])), 24)
        self.assertEqual(run.tree()[1][0], (("o", 0),))
