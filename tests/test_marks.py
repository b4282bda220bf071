"""heldover.runs: marks, and runs of all sorts against executions of their codes."""

import unittest
from random import Random

from heldover.compiler import compiled_all
from heldover.runs import Run
from tests.programs import random_entry, random_start, random_version
from tests.samples import function, version_of, version_with
from tests.test_runs import RunTest, ask, at, run_of, slept
from tests.walker import differences_with_missed, old_walk, walk

MARK = ("mark",)
TAKEN = (MARK, True, 0)


class MarksTest(RunTest):
    def setUp(self):
        self.version = version_with(
            ("sleep", "p", 1), ("since", "m", (("sleep", "new", 2),), (("sleep", "old", 3),)), ("sleep", "z", 4))

    def test_a_mark_waits(self):
        run = run_of(self.version, {at("p"): slept(1)})
        self.check(run, waits={at("m"): MARK})
        self.assertEqual(run.passed(), [])
        self.assertEqual(run.way(at("m")), [at("p")])
        self.assertEqual(run.frames(at("m"))[0][:2], ("run", "m"))
        self.assertEqual(run.tree()[1][0], (("m", 0),))

    def test_a_mark_with_an_entry(self):
        story = {at("p"): slept(1), at("m"): (MARK, True, 9)}
        run = run_of(self.version, story)
        self.check(run, waits={at("new"): ("sleep", 2)})
        self.assertEqual(run.come_to(), sorted(story))
        self.assertEqual((run.way(at("new")), run.moment(at("new"))), (sorted(story), 9))
        self.assertEqual(run.frames(at("m"))[0][1], "m")

    def test_a_passed_mark(self):
        story = {at("p"): slept(1), at("old"): slept(3)}
        run = run_of(self.version, story)
        self.check(run, waits={at("z"): ("sleep", 4)})
        self.assertEqual(run.passed(), [at("m")])
        self.assertEqual(run.frames(at("m"))[0][1], "m")
        self.assertEqual((run.way(at("m")), run.moment(at("m"))), ([at("p")], 0))
        self.assertEqual(run.way(at("z")), sorted(story))
        whole = run_of(self.version, {**story, at("z"): slept(4, 6)})
        self.check(whole, ("result", 0))
        self.assertEqual(whole.end_moment, 6)

    def test_an_entry_of_the_new_arm_does_not_pass_it(self):
        run = run_of(self.version, {at("p"): slept(1), at("new"): slept(2)})
        self.check(run, waits={at("m"): MARK}, state="ahead", missed=[at("new")])

    def test_another_question(self):
        run = run_of(self.version, {at("p"): slept(1), at("m"): slept(5)})
        self.check(run, state="different", differences={at("m"): ("question", MARK)}, missed=[at("m")])
        self.assertEqual(run.frames(at("m"))[0][1], "m")

    def test_an_open_ask_passes_it(self):
        version = version_with(("since", "m", (), (("ask", "a", "x", "price", (1,)),)))
        run = run_of(version, {at("a"): (("ask", "price", (1,)), None, None)})
        self.check(run, waits={at("a"): ("ask", "price", (1,))})
        self.assertEqual((run.passed(), run.come_to()), ([at("m")], [at("a")]))

    def test_an_entry_that_is_not_come_to_does_not_pass_it(self):
        version = version_with(("since", "m", (), (("ask", "a", "x", "price", (1,)),)))
        for entry in (ask(2, 5), ask(1, True)):
            run = run_of(version, {at("a"): entry})
            self.check(run, waits={at("m"): MARK}, state="ahead", missed=[at("a")])

    def test_the_entry_of_a_mark_that_is_no_longer_there(self):
        run = run_of(version_with(("sleep", "p", 1)), {at("p"): slept(1), at("m"): (MARK, True, 50)})
        self.check(run, ("result", 0))
        self.assertEqual((run.come_to(), run.end_moment), ([at("p")], 0))
        self.assertEqual(run.story()[at("m")], (MARK, True, 50))

    def test_in_bodies_of_a_both(self):
        version = version_with(
            ("both", "b", (("since", "m", (), ()), ("sleep", "p", 1)), (("since", "k", (), ()), ("sleep", "q", 1))), ("sleep", "z", 1))
        m, k, p, q, z = at("b", "m"), at(("b", 1), "k"), at("b", "p"), at(("b", 1), "q"), at("z")
        self.check(run_of(version), waits={m: MARK, k: MARK})
        run = run_of(version, {p: slept(1)})
        self.check(run, waits={k: MARK})
        self.assertEqual(run.passed(), [m])
        run = run_of(version, {p: slept(1), q: slept(1)})
        self.assertEqual((run.passed(), run.waits()), ([m, k], {z: ("sleep", 1)}))
        run = run_of(version, {z: slept(1)})
        self.check(run, waits={m: MARK, k: MARK}, state="ahead", missed=[z])
        run = run_of(version, {p: slept(1), k: TAKEN})
        self.check(run, waits={q: ("sleep", 1)})

    def test_behind_a_both_marks_of_both_bodies_are_passed(self):
        version = version_with(("both", "b", (("since", "m", (), ()),), (("since", "k", (), ()),)), ("sleep", "z", 1))
        run = run_of(version, {at("z"): slept(1)})
        self.check(run, ("result", 0))
        self.assertEqual(run.passed(), [at("b", "m"), at(("b", 1), "k")])

    def test_in_loops(self):
        version = version_with(("loop", "l", 3, (("since", "m", (("sleep", "new", 1),), ()), ("sleep", "s", 1))))
        run = run_of(version, {at("l", "s"): slept(1)})
        self.check(run, waits={at(("l", 1), "m"): MARK})
        self.assertEqual(run.passed(), [at("l", "m")])
        run = run_of(version, {at("l", "s"): slept(1), at(("l", 1), "m"): TAKEN, at(("l", 1), "new"): slept(1)})
        self.check(run, waits={at(("l", 1), "s"): ("sleep", 1)})
        self.assertEqual(run.passed(), [at("l", "m")])
        run = run_of(version, {at("l", "s"): slept(1), at(("l", 1), "s"): slept(1), at(("l", 2), "s"): slept(1)})
        self.check(run, ("result", 0))
        self.assertEqual(run.passed(), [at(("l", number), "m") for number in range(3)])

    def test_in_callees(self):
        one = function("one", ("since", "m", (("return", 1),), (("return", 2),)))
        two = function("two", ("call", "c", "x", "one", (1,)), ("sleep", "s", "x"))
        version = version_of(one, two)
        self.check(run_of(version), waits={at("c", "m"): MARK})
        self.check(run_of(version, {at("c", "m"): TAKEN}), waits={at("s"): ("sleep", 1)})
        run = run_of(version, {at("s"): slept(2)})
        self.check(run, ("result", 0))
        self.assertEqual(run.passed(), [at("c", "m")])
        self.assertEqual([frame[:2] for frame in run.frames(at("c", "m"))], [("two", "c"), ("one", "m")])
        self.check(run_of(version, {at("s"): slept(1)}), waits={at("c", "m"): MARK}, state="ahead", missed=[at("s")])

    def test_in_old_arms_of_other_marks(self):
        inner = ("since", "i", (("sleep", "ni", 1),), (("sleep", "oi", 1),))
        version = version_with(("since", "o", (("sleep", "no", 1),), (inner, ("sleep", "q", 1))))
        self.check(run_of(version), waits={at("o"): MARK})
        run = run_of(version, {at("oi"): slept(1)})
        self.check(run, waits={at("q"): ("sleep", 1)})
        self.assertEqual(run.passed(), [at("i"), at("o")])
        run = run_of(version, {at("i"): TAKEN})
        self.check(run, waits={at("ni"): ("sleep", 1)})
        self.assertEqual((run.passed(), run.come_to()), ([at("o")], [at("i")]))
        self.check(run_of(version, {at("o"): TAKEN, at("i"): TAKEN}), waits={at("no"): ("sleep", 1)})

    def test_several_in_one_run(self):
        version = version_with(("since", "m", (), ()), ("sleep", "p", 1), ("since", "k", (), ()), ("sleep", "q", 1),
                               ("since", "l", (), ()))
        run = run_of(version, {at("p"): slept(1)})
        self.check(run, waits={at("k"): MARK})
        self.assertEqual(run.passed(), [at("m")])
        run = run_of(version, {at("m"): TAKEN, at("p"): slept(1), at("q"): slept(1)})
        self.check(run, waits={at("l"): MARK})
        self.assertEqual(run.passed(), [at("k")])
        run = run_of(version, {at("p"): slept(1), at("k"): TAKEN})
        self.assertEqual(run.passed(), [at("m")])

    def test_arms_set_variables_and_leave(self):
        version = version_with(("loop", "l", 3, (("since", "m", (("set", "x", 1), ("break",)), (("raise", "dear"),)),)), ("return", "x"))
        self.check(run_of(version, {at("l", "m"): TAKEN}), ("result", 1))
        self.check(run_of(version), waits={at("l", "m"): MARK})


class AllSortsTest(unittest.TestCase):
    """Runs by chance, against executions that judge each mark by an old execution which waits at it."""

    def compare(self, version, codes, start, story):
        run = Run(version, "ann", 0, start, story)
        done = walk(version, codes, "ann", 0, start, story)
        self.assertEqual(run.waits(), done.waits)
        self.assertEqual(run.differences(), differences_with_missed(done, story))
        self.assertEqual((run.come_to(), run.passed()), (sorted(done.came), sorted(done.passed)))
        self.assertEqual(run.end(), done.end)
        self.check_steps(run, story)
        return run, done

    def check_steps(self, run, story):
        """The moments of steps, and what holds of all runs."""
        self.assertEqual(run.tree() is None, run.end() is not None)
        missed = [index for index in story if index not in run.come_to() and story[index][0] != ("mark",)]
        self.assertEqual(run.missed(), sorted(missed))
        state = "different" if run.differences() else "ahead" if missed else "closed"
        self.assertEqual(run.state, state)
        for index in (*run.waits(), *run.passed(), *run.come_to()):
            way = run.way(index)
            self.assertEqual(run.moment(index), max([run.start[2], *[story[one][2] for one in way]]))
            self.assertTrue(all(set(run.way(one)) < set(way) for one in way))
            self.assertEqual(run.frames(index)[0][0], run.start[0])
            self.assertEqual(run.frames(index)[-1][1], index[-1][0])
        if run.end() is not None:
            self.assertEqual(run.end_moment, max([run.start[2], *[story[one][2] for one in run.come_to()]]))

    def grow(self, seed, sort):
        """Stories that grow: along the run, along its old run, or with wrong entries."""
        version = random_version(seed)
        codes, _ = compiled_all(version)
        start, chance, story = random_start(version, seed), Random(seed), {}
        for moment in range(20):
            _, done = self.compare(version, codes, start, story)
            waits = old_walk(version, codes, "ann", 0, start, story).waits if sort == "old" else done.waits
            waits = {index: question for index, question in waits.items() if index not in story}
            if not waits:
                break
            index = chance.choice(sorted(waits))
            story[index] = random_entry(version, chance, waits[index], index, moment, 0.15 if sort == "wrong" else 0)
        for index in list(story):
            self.compare(version, codes, start, {one: story[one] for one in story if one != index})

    def test_along_the_run(self):
        for seed in range(60):
            self.grow(seed, "run")

    def test_along_the_old_run(self):
        for seed in range(100, 160):
            self.grow(seed, "old")

    def test_with_wrong_entries(self):
        for seed in range(200, 260):
            self.grow(seed, "wrong")
