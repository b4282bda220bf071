"""heldover.debugger: history, what code shows, what if, and influences."""

import unittest
from random import Random

from heldover.compiler import compiled_all
from heldover.debugger import history, influences, shown, what_if
from heldover.errors import InvalidAnswer, InvalidCodes, InvalidFrame, InvalidMap, NoFrame, UnknownName, UnknownStep
from heldover.execution import Execution
from heldover.flows import least_frame
from heldover.passes import apply_pass
from heldover.pipelines import Pipeline, optimized
from heldover.runs import Run
from heldover.stories import same
from tests.anything import ODD
from tests.programs import random_answer, random_start, random_version
from tests.samples import function, version_of, version_with
from tests.test_execution import DOUBLE, START, slot, value
from tests.test_runs import VERSION
from tests.watching import stories

A = (0, ("a", 0))


def ask(label, n, variable="x"):
    return ("ask", label, variable, "price", (n,))


def asked(n, answer, moment=0):
    return (("ask", "price", (n,)), answer, None if answer is None else moment)


def slept(minutes=1, moment=0):
    return (("sleep", minutes), True, moment)


def at(label, *before):
    return (0, *before, (label, 0))


def run_of(version, story, start=("run", (1,), 0)):
    return Run(version, "ann", 0, start, story)


class HistoryTest(unittest.TestCase):
    def test_by_the_way_and_then_by_the_index(self):
        version = version_with(("sleep", "z", 1), ("both", "b", (ask("y", 1), ("sleep", "c", 1)), (("sleep", "a", 1),)), ask("d", 2))
        one, other = ("b", 0), ("b", 1)
        story = {at("d"): asked(2, None), (0, other, ("a", 0)): slept(1, 9), at("c", one): slept(1, 4), at("y", one): asked(1, 7, 3), at("z"): slept(1, 2)}
        found = history(run=run_of(version, story))
        self.assertEqual([index for index, _, _, _ in found], [at("z"), at("y", one), (0, other, ("a", 0)), at("c", one), at("d")])
        self.assertEqual(found[1], (at("y", one), ("ask", "price", (1,)), 7, 3))
        self.assertEqual(found[4], (at("d"), ("ask", "price", (2,)), None, None))

    def test_only_what_it_has_come_to(self):
        version = version_with(("since", "m", (("sleep", "a", 1),), (("sleep", "b", 1),)), ("sleep", "c", 1))
        taken = {at("m"): (("mark",), True, 3), at("a"): slept(1, 4), at("b"): slept()}
        self.assertEqual([row[0] for row in history(run_of(version, taken))], [at("m"), at("a")])
        self.assertEqual(history(run_of(version, {})), [])
        self.assertEqual(history(run_of(version, {at("m"): slept()})), [])
        old = version_with(("sleep", "a", 1))
        self.assertEqual([row[0] for row in history(run_of(old, taken))], [at("a")])

    def test_what_stands_on_the_way_stands_before(self):
        for seed in range(30):
            version, chance = random_version(seed), Random(seed)
            start = random_start(version, seed)
            for story in stories(version, start, chance, 1, 0.05, 12):
                run = run_of(version, story, start)
                found = history(run)
                self.assertEqual(sorted(row[0] for row in found), run.come_to())
                self.assertEqual([(row[0], row[1:]) for row in found], [(row[0], story[row[0]]) for row in found])
                places = {row[0]: place for place, row in enumerate(found)}
                counts = [(len(run.way(row[0])), row[0]) for row in found]
                self.assertEqual(counts, sorted(counts))
                for index in places:
                    self.assertTrue(all(places[one] < places[index] for one in run.way(index)))


class ShownTest(unittest.TestCase):
    def agree(self, version, codes, maps, run, frame):
        """What is shown is what the plain run has; returns how many values are not shown."""
        found = shown(version, codes, maps, run.epoch, frame)
        # What stops with a difference stands in the frame as well.
        self.assertEqual(sorted(found), sorted({**run.waits(), **run.differences()}))
        missing = 0
        for index, frames in found.items():
            wanted = run.frames(index)
            self.assertEqual([one[:2] for one in frames], [one[:2] for one in wanted])
            for (_, _, values), (_, _, plain) in zip(frames, wanted):
                self.assertEqual(set(values), set(plain))
                for name, told in values.items():
                    missing += told is None
                    if told is not None:
                        self.assertEqual(told[0], "value")
                        self.assertTrue(same(told[1], plain[name]))
        return missing

    def test_the_compiler_shows_everything(self):
        codes, maps = compiled_all(VERSION)
        story = {A: asked(3, 7, 12)}
        run = Run(VERSION, "ann", 4, START, {})
        frame = Execution(VERSION, codes, "ann", 4, START, {}).frame()
        self.assertEqual(shown(version=VERSION, codes=codes, maps=maps, epoch=4, frame=frame),
                         {(4, ("a", 0)): [("buy", "a", {"n": ("value", 3), "p": ("value", 0), "ok": ("value", False)})]})
        self.assertEqual(self.agree(VERSION, codes, maps, run, frame), 0)
        frame = Execution(VERSION, codes, "ann", 0, START, story).frame()
        found = shown(VERSION, codes, maps, 0, frame)
        self.assertEqual(sorted(found), [at("w", ("b", 0)), (0, ("b", 1), ("r", 0))])
        self.assertEqual(self.agree(VERSION, codes, maps, Run(VERSION, "ann", 0, START, story), frame), 0)

    def test_by_chance(self):
        missing = [0, 0, 0]
        for seed in range(30):
            version, chance = random_version(seed), Random(seed)
            start = random_start(version, seed)
            lines = (Pipeline(), Pipeline.standard("1", "2", "lca", "lea"), Pipeline(("inline", "1"), ("unroll", "2"), ("unroll", "lba"), "dead"))
            for number, line in enumerate(lines):
                codes, maps = optimized(version, line)
                for story in stories(version, start, chance, 1, 0.03, 10):
                    run = run_of(version, story, start)
                    try:
                        frame = Execution(version, codes, "ann", 0, start, story).frame()
                    except NoFrame:
                        continue
                    missing[number] += self.agree(version, codes, maps, run, frame)
                    least = least_frame(codes, frame)
                    self.assertGreaterEqual(self.agree(version, codes, maps, run, least), 0)
        self.assertEqual(missing[0], 0)
        self.assertTrue(missing[1] > 0 and missing[2] > 0, missing)

    def test_inlined_calls(self):
        deep = function("deep", ask("q", "m"), ("return", ("add", "x", "m")), params=(("m", "int"),), inner=(("x", "int"),))
        mid = function("mid", ("set", "x", 8), ("call", "d", "x", "deep", (("add", "m", 1),)), ("return", "x"), params=(("m", "int"),), inner=(("x", "int"),))
        run = function("run", ("set", "y", 5), ("loop", "k", 2, (("call", "c", "x", "mid", (("add", "n", "y"),)),)), ("return", ("add", "x", "y")))
        version = version_of(deep, mid, run)
        codes, maps = optimized(version, Pipeline(("inline", "c"), ("inline", "d")))
        frame = Execution(version, codes, "ann", 0, ("run", (3,), 0), {}).frame()
        self.assertEqual(frame[1][2], None)
        index = (0, ("k", 0), ("c", 0), ("d", 0), ("q", 0))
        found = shown(version, codes, maps, 0, frame)
        self.assertEqual(list(found), [index])
        self.assertEqual([(name, label) for name, label, _ in found[index]], [("run", "c"), ("mid", "d"), ("deep", "q")])
        self.assertEqual(found[index][1][2], {"m": ("value", 8), "x": ("value", 8)})
        self.assertEqual(found[index][2][2], {"m": ("value", 9), "x": ("value", 0)})
        self.assertEqual((found[index][0][2]["n"], found[index][0][2]["y"]), (("value", 3), ("value", 5)))
        wanted = Run(version, "ann", 0, ("run", (3,), 0), {}).frames(index)
        for (_, _, values), (_, _, plain) in zip(found[index], wanted):
            self.assertEqual({name: told[1] for name, told in values.items()}, plain)

    def test_recipes_left_out_and_values_in_their_place(self):
        code_map = {0: ((("var", (), "n"), None), {}), 1: ((None, None), {("var", (), "n"): ("div", slot(1), value(2)), ("var", (), "p"): value(("Foo", 1)), ("var", (), "ok"): None,
                                                                           ("var", (), "other"): slot(0)})}
        codes = {"buy": DOUBLE}
        self.assertEqual(shown(VERSION, codes, {"buy": code_map}, 0, ("buy", ((3, 6), 1, None))), {A: [("buy", "a", {"n": ("value", 3), "p": ("value", ("Foo", 1)), "ok": None})]})
        # The slot holds nothing, or the recipe has no value.
        for slots in ((3, None), (3, True), (3, "x")):
            self.assertEqual(shown(VERSION, codes, {"buy": code_map}, 0, ("buy", (slots, 1, None)))[A][0][2]["n"], None)
        least = least_frame(codes, ("buy", ((3, 6), 1, None)))
        moved = {0: code_map[0], 1: ((None, None), {("var", (), "n"): slot(0)})}
        self.assertEqual(shown(VERSION, codes, {"buy": moved, "more": 3}, 0, least)[A][0][2], {"n": None, "p": None, "ok": None})

    def test_dead_variables(self):
        version = version_with(("set", "y", ("add", "n", 1)), ask("a", 1), ("return", "x"))
        codes, maps = compiled_all(version)
        codes["run"], maps["run"] = apply_pass("dead", version, codes, maps, "run")
        frame = Execution(version, codes, "ann", 0, ("run", (3,), 0), {}).frame()
        self.assertEqual(set(shown(version, codes, maps, 0, frame)[A][0][2].values()), {None})

    def test_no_dict_is_shared(self):
        deep = function("deep", ("both", "b", (("sleep", "s", 1),), (("sleep", "z", 1),)), params=())
        version = version_of(deep, function("run", ("call", "c", "x", "deep", ())))
        codes, maps = compiled_all(version)
        frame = Execution(version, codes, "ann", 0, ("run", (3,), 0), {}).frame()
        found = shown(version, codes, maps, 0, frame)
        dicts = [values for frames in found.values() for _, _, values in frames]
        self.assertEqual((len(dicts), len({id(values) for values in dicts})), (4, 4))

    def test_codes_that_do_not_go_with_the_version(self):
        self.assertEqual(shown(version_with(), {"buy": DOUBLE}, {"buy": {0: ((None, None), {}), 1: ((None, None), {})}}, 0, ("buy", ((3, 6), 1, None))), {})

    def test_slots_in_places(self):
        """Where a slot of a place holds no number of a part, the branch waits at no index."""
        version = version_with(("loop", "k", 3, (("sleep", "s", "n"),)))
        codes, maps = compiled_all(version)
        slots, block, inner = Execution(version, codes, "ann", 0, ("run", (3,), 0), {}).frame()[1]
        place = codes["run"][3][block][0]
        held = [number[1] for _, number in place if isinstance(number, tuple)]
        self.assertEqual(len(held), 1)
        for number in (0, 2, 9):
            changed = tuple(number if slot == held[0] else value for slot, value in enumerate(slots))
            self.assertEqual(list(shown(version, codes, maps, 4, ("run", (changed, block, inner)))), [(4, ("k", number), ("s", 0))])
        for odd in (None, -1, 10, True, "x", ("Red",)):
            changed = tuple(odd if slot == held[0] else value for slot, value in enumerate(slots))
            self.assertEqual(shown(version, codes, maps, 4, ("run", (changed, block, inner))), {})

    def test_errors(self):
        codes, maps = {"buy": DOUBLE}, {"buy": {0: ((None, None), {}), 1: ((None, None), {})}}
        for odd in ODD:
            if not isinstance(odd, dict) or odd:
                with self.assertRaises(InvalidCodes) as caught:
                    shown(VERSION, odd, odd, 0, odd)
                self.assertIsNone(caught.exception.name)
            with self.assertRaises(InvalidMap) as caught:
                shown(VERSION, codes, odd, 0, odd)
            self.assertIs(caught.exception.value, odd)
            with self.assertRaises(InvalidFrame) as caught:
                shown(VERSION, codes, maps, 0, odd)
            self.assertIs(caught.exception.value, odd)


class WhatIfTest(unittest.TestCase):
    def setUp(self):
        self.version = version_with(
            ask("a", 1), ("if", ("less", "x", 5), (("sleep", "s", 1), ask("b", 2, "y")), (("sleep", "z", "x"),)), ("receive", "r", "ok", "paid"), ("sleep", "e", "x"))
        self.r = at("r")
        self.story = {A: asked(1, 3, 4), at("s"): slept(1, 5), at("b"): asked(2, 8, 6), self.r: (("receive", "paid"), (("bob", A), True), 7), at("e"): slept(3, 10)}

    def test_what_is_left_out(self):
        run = run_of(self.version, self.story)
        changed, out = what_if(run=run, index=A, answer=9)
        self.assertEqual(out, [at("b"), at("e"), self.r, at("s")])
        self.assertEqual(changed.story(), {A: asked(1, 9, 4)})
        self.assertEqual((changed.waits(), changed.state), ({at("z"): ("sleep", 9)}, "closed"))
        self.assertTrue(run == run_of(self.version, self.story))
        changed, out = what_if(run, A, 4)
        self.assertEqual((out, changed.waits()), ([at("e")], {at("e"): ("sleep", 4)}))
        changed, out = what_if(run, at("b"), 0)
        self.assertEqual((out, changed.end(), changed.story()[at("b")]), ([], run.end(), asked(2, 0, 6)))
        changed, out = what_if(run, self.r, (("eve", at("m")), False))
        self.assertEqual((out, changed.story()[self.r]), ([], (("receive", "paid"), (("eve", at("m")), False), 7)))

    def test_the_same_answer(self):
        run = run_of(self.version, self.story)
        changed, out = what_if(run, A, 3)
        self.assertTrue(changed == run)
        self.assertEqual(out, [])

    def test_again_and_again(self):
        """What is left out lets others be missed, and the like."""
        version = version_with(ask("a", 1), ("both", "b", (ask("c", "x", "y"), ("sleep", "d", 1)), (("sleep", "f", 1),)), ask("e", "y"), ("sleep", "g", 1))
        one, other = ("b", 0), ("b", 1)
        story = {A: asked(1, 3), at("c", one): asked(3, 4), at("d", one): slept(), (0, other, ("f", 0)): slept(), at("e"): asked(4, 5), at("g"): slept()}
        changed, out = what_if(run_of(version, story), A, 6)
        self.assertEqual(out, sorted([at("c", one), at("d", one), at("e"), at("g")]))
        self.assertEqual(changed.waits(), {at("c", one): ("ask", "price", (6,))})

    def test_marks_and_open_asks_stay(self):
        version = version_with(ask("a", 1), ("since", "m", (("sleep", "s", 1),), ()), ask("b", 2))
        story = {A: asked(1, 3), at("m"): (("mark",), True, 0), at("s"): slept(), at("b"): asked(2, None)}
        changed, out = what_if(run_of(version, story), A, 7)
        self.assertEqual((out, changed.story()), ([], {**story, A: asked(1, 7)}))
        # The entry of a mark to which the changed run does not come has no effect and stays.
        version = version_with(ask("a", 1), ("if", ("less", "x", 5), (("since", "m", (("sleep", "s", 1),), ()),), ()))
        story = {A: asked(1, 3), at("m"): (("mark",), True, 0), at("s"): slept()}
        changed, out = what_if(run_of(version, story), A, 7)
        self.assertEqual((out, changed.story()), ([at("s")], {A: asked(1, 7), at("m"): story[at("m")]}))

    def test_errors(self):
        run = run_of(self.version, {**self.story, at("q"): asked(9, 1)})
        for odd in (*ODD, at("s"), at("e"), at("q"), at("z"), (1, ("a", 0)), list(A)):
            with self.assertRaises(UnknownStep) as caught:
                what_if(run, odd, odd)
            self.assertIs(caught.exception.value, odd)
        opened = run_of(self.version, {A: asked(1, None)})
        self.assertRaises(UnknownStep, what_if, opened, A, 3)
        for odd in ODD:
            if type(odd) is not int:
                with self.assertRaises(InvalidAnswer) as caught:
                    what_if(run, A, odd)
                self.assertIs(caught.exception.value, odd)
            with self.assertRaises(InvalidAnswer) as caught:
                what_if(run, self.r, odd)
            self.assertIs(caught.exception.value, odd)
        for wrong in ((("bob", A), 1), (("bob", (0,)), True), (("bob", A), True, 1), [("bob", A), True], (["bob", A], True), (("b%", A), True), True):
            self.assertRaises(InvalidAnswer, what_if, run, self.r, wrong)

    def test_by_chance(self):
        """The changed run is closed, and keeps exactly what it comes to, and marks."""
        changes = 0
        for seed in range(150):
            version, chance = random_version(seed), Random(seed)
            start = random_start(version, seed)
            story = list(stories(version, start, chance, 1, 0.0, 14))[-1]
            run = run_of(version, story, start)
            for index in run.come_to():
                question = story[index][0]
                if question[0] not in ("ask", "receive") or story[index][1] is None:
                    continue
                answer = random_answer(version, chance, question, index)
                changed, out = what_if(run, index, answer)
                changes += bool(out)
                self.assertEqual((changed.state, changed.missed(), changed.differences()), ("closed", [], {}))
                self.assertEqual(out, sorted(set(story) - set(changed.story())))
                for one, entry in changed.story().items():
                    self.assertEqual(entry, (question, answer, story[index][2]) if one == index else story[one])
                self.assertEqual((changed.version == version, changed.name, changed.epoch, changed.start), (True, "ann", 0, start))
                self.assertTrue(what_if(run, index, story[index][1])[0] == run)
        self.assertGreater(changes, 15)


class InfluencesTest(unittest.TestCase):
    def setUp(self):
        self.version = version_with(
            ask("a", 1), ask("b", 2, "y"), ("receive", "r", "ok", "paid"), ("if", ("less", "x", 5), (), (("sleep", "z", 1),)), ("set", "y", ("add", "x", "y")), ("sleep", "e", 1))
        self.r, self.e = at("r"), at("e")
        self.story = {A: asked(1, 3), at("b"): asked(2, 4), self.r: (("receive", "paid"), (("bob", A), True), 0)}
        self.run = run_of(self.version, self.story)

    def test_values(self):
        yes, no = (("bob", A), True), (("bob", A), False)
        choices = {self.r: [no, yes], A: [3, 4, 9], at("b"): (4, 5)}
        self.assertEqual(influences(run=self.run, index=self.e, variable="y", choices=choices), [(A, 4), (A, 9), (at("b"), 5)])
        self.assertEqual(influences(self.run, self.e, "x", choices), [(A, 4), (A, 9)])
        self.assertEqual(influences(self.run, self.e, "ok", choices), [(A, 9), (self.r, no)])
        self.assertEqual(influences(self.run, self.e, "n", choices), [(A, 9)])
        self.assertEqual(influences(self.run, self.e, "n", {}), [])
        self.assertEqual(influences(self.run, self.e, "n", {A: []}), [])

    def test_another_order_of_choices(self):
        choices = {A: [9, 4, 9], at("b"): [5]}
        wanted = [(A, 9), (A, 4), (A, 9), (at("b"), 5)]
        self.assertEqual(influences(self.run, self.e, "y", choices), wanted)
        self.assertEqual(influences(self.run, self.e, "y", dict(reversed(choices.items()))), wanted)

    def test_steps_before_a_choice_are_not_influenced(self):
        for variable in ("n", "x", "y", "ok"):
            self.assertEqual(influences(self.run, A, variable, {at("b"): [5, 9], A: [9]}), [])
            self.assertEqual(influences(self.run, at("b"), variable, {A: [9]}), [(A, 9)] if variable == "x" else [])

    def test_a_step_to_which_the_changed_run_does_not_come(self):
        # With 9 it waits at z, ahead of e.
        self.assertEqual(influences(self.run, self.e, "no", {A: [9]}), [(A, 9)])
        # It has come to e, and waits there.
        whole = run_of(self.version, {**self.story, self.e: slept()})
        self.assertEqual(influences(whole, self.e, "no", {A: [4, 9]}), [(A, 9)])

    def test_marks_that_are_passed(self):
        version = version_with(ask("a", 1), ("since", "m", (), (ask("b", "x", "y"),)), ("sleep", "s", 1))
        story = {A: asked(1, 3), at("b"): asked(3, 4)}
        run = run_of(version, story)
        self.assertEqual(run.passed(), [at("m")])
        # With another answer it waits at the mark, and does not come to the step behind it.
        self.assertEqual(influences(run, at("m"), "y", {A: [3, 5]}), [])
        self.assertEqual(influences(run, at("m"), "x", {A: [3, 5]}), [(A, 5)])
        self.assertEqual(influences(run, at("s"), "n", {A: [3, 5]}), [(A, 5)])

    def test_in_the_innermost_frame(self):
        deep = function("deep", ("sleep", "s", 1), params=(("m", "int"),), inner=(("x", "int"),))
        version = version_of(deep, function("run", ask("a", 1), ("call", "c", "y", "deep", (("mul", "x", 0),))))
        run = run_of(version, {A: asked(1, 3)})
        s = (0, ("c", 0), ("s", 0))
        self.assertEqual(influences(run, s, "x", {A: [4]}), [])
        self.assertEqual(influences(run, s, "m", {A: [4]}), [])
        self.assertRaises(UnknownName, influences, run, s, "y", {A: [4]})

    def test_errors_in_their_order(self):
        for odd in (*ODD, at("q"), at("z")):
            with self.assertRaises(UnknownStep) as caught:
                influences(self.run, odd, odd, {odd if isinstance(odd, (int, str)) else 1: 3})
            self.assertIs(caught.exception.value, odd)
        for odd in (*ODD, "zz"):
            with self.assertRaises(UnknownName) as caught:
                influences(self.run, self.e, odd, {at("q"): [1]})
            self.assertIs(caught.exception.name, odd)
        for odd in (0, None, "a", (), (0,), at("q"), self.e, True):
            with self.assertRaises(UnknownStep) as caught:
                influences(self.run, self.e, "x", {odd: [1], A: [3]})
            self.assertEqual(caught.exception.value, odd)
        with self.assertRaises(InvalidAnswer) as caught:
            influences(self.run, self.e, "x", {at("q"): [1], A: [3, True, "x"]})
        self.assertIs(caught.exception.value, True)
        with self.assertRaises(UnknownStep):
            influences(self.run, self.e, "x", {at("q"): [1], self.r: [True]})

    def test_by_chance(self):
        """Against the words; and without passed marks nothing that is not on the way influences a variable."""
        count = 0
        for seed in range(50):
            version, chance = random_version(seed), Random(seed)
            start = random_start(version, seed)
            story = list(stories(version, start, chance, 1, 0.0, 9))[-1]
            run = run_of(version, story, start)
            choices = {}
            for index in run.come_to():
                question = story[index][0]
                if question[0] in ("ask", "receive"):
                    choices[index] = [random_answer(version, chance, question, index) for _ in range(2)]
            steps = sorted(set(run.come_to()) | set(run.waits()) | set(run.passed()))
            for step in chance.sample(steps, min(3, len(steps))):
                values = run.frames(step)[-1][2]
                for variable in chance.sample(sorted(values), min(2, len(values))):
                    wanted = []
                    for index in sorted(choices):
                        for answer in choices[index]:
                            changed, _ = what_if(run, index, answer)
                            there = step in changed.waits() or step in changed.come_to() or step in changed.passed()
                            if not there or not same(changed.frames(step)[-1][2][variable], values[variable]):
                                wanted.append((index, answer))
                    found = influences(run, step, variable, choices)
                    self.assertEqual(repr(found), repr(wanted))
                    count += len(found)
                    if not run.passed():
                        self.assertTrue({index for index, _ in found} <= set(run.way(step)))
        self.assertGreater(count, 20)


if __name__ == "__main__":
    unittest.main()
