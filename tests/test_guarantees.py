"""The guarantees of [4], each over several modules."""

import unittest
from random import Random

from heldover.builds import Build
from heldover.compiler import compiled_all
from heldover.debugger import shown
from heldover.errors import InvalidRecord, InvalidVersion, NoFrame
from heldover.execution import Execution
from heldover.flows import flow, least_frame, needed_slots
from heldover.frames import frame_of, is_right_frame
from heldover.indexes import index_text, parse_index
from heldover.log import Keeper
from heldover.moves import can_move, greatest, is_reason
from heldover.pipelines import Pipeline, optimized
from heldover.records import good_records, read_record, record_text
from heldover.recovery import recover
from heldover.runs import Run
from heldover.stories import same
from heldover.talk import may_still
from heldover.versions import Version
from heldover.worlds import is_record_worlds, left_worlds, parting, record_worlds
from tests.lives import random_operation
from tests.programs import random_start, random_version
from tests.samples import function, version_of
from tests.test_fits import changed
from tests.watching import stories


class Life:
    """A keeper that lives by chance: operations, flushes, crashes, shortenings, checkpoints and replacements.

    It remembers all that was received and asked, as nothing of it may happen again.
    """

    def __init__(self, seed, steps=30):
        self.chance = Random(seed)
        first = random_version(seed)
        self.versions = [first]
        self.keeper = Keeper(first)
        self.replaced = []
        self.crashes = 0
        for _ in range(steps):
            self.step()

    def machine(self):
        return self.keeper.machine()

    def step(self):
        event = self.chance.random()
        if event < 0.2:
            self.keeper.flush()
        elif event < 0.26:
            disk = self.keeper.disk()
            self.keeper = self.keeper.crash(self.chance.randint(0, len(disk) - disk.flushed))
            self.crashes += 1
        elif event < 0.32:
            # Behind a shortening a mark that is passed by open asks alone waits again [76]; that is another story.
            if not self.marked():
                self.keeper.shorten()
        elif event < 0.4:
            self.replace()
        else:
            operation, version = random_operation(self.machine(), self.chance, self.machine().versions())
            # Tasks are moved by replacements alone.
            self.keeper.perform(operation if operation[0] != "move" else ("move", [], operation[2]), version)
        self.after()

    def marked(self):
        machine = self.machine()
        return any(machine.run(name).passed() for name in machine.names())

    def replace(self):
        machine = self.machine()
        if len(machine.versions()) == 5:
            return
        version = changed(machine.versions()[machine.current], self.chance)
        population, unread, names = machine.population(), machine.unread(), machine.names()
        moved, reasons = greatest(population, unread, version, names)
        self.replaced.append((population, unread, version, names, moved, reasons))
        if "" not in reasons:
            self.keeper.perform(("version",), version)
            self.keeper.perform(("move", moved, len(machine.versions())))

    def after(self):
        """Called behind each event."""


class SameLife(Life):
    """[4] SAME: where tasks stand, and what codes do and show."""

    def __init__(self, seed, test, line):
        self.test, self.line, self.known = test, line, {}
        super().__init__(seed, 18)

    def codes(self, version):
        text = str(version)
        if text not in self.known:
            self.known[text] = optimized(version, self.line)
        return self.known[text]

    def after(self):
        machine, test = self.machine(), self.test
        for name in machine.names()[:4]:
            run, task = machine.run(name), machine.task(name)
            test.assertEqual(run.state, "closed")
            test.assertTrue(run == Run(machine.versions()[task.version], name, task.epoch, task.start, task.story()))
            codes, maps = self.codes(run.version)
            side = ("run", run.version, name, run.epoch, run.start)
            test.assertIsNone(parting(side, ("code", run.version, codes, name, run.epoch, run.start), run.story()))
            if run.tree() is None:
                continue
            frame = Execution(run.version, codes, name, run.epoch, run.start, run.story()).frame()
            test.assertTrue(is_right_frame(codes, maps, run, frame))
            for index, frames in shown(run.version, codes, maps, run.epoch, frame).items():
                for (_, _, values), (_, _, plain) in zip(frames, run.frames(index)):
                    test.assertTrue(all(told is None or same(told[1], plain[one]) for one, told in values.items()))
            self.keeper.checkpoint(name, "k", frame)


class OnceLife(Life):
    """[4] ONCE and KIND: what is received, asked and handed out."""

    def __init__(self, seed, test):
        self.test, self.handed = test, {}
        super().__init__(seed, 40)

    def after(self):
        machine, test = self.machine(), self.test
        received = []
        for record in machine.records():
            if record[0] == "answered" and record[3][0] == "receive":
                received.append((record[1], record[4][0]))
        test.assertEqual(len(received), len(set(received)))
        lying = [(receiver, one) for one, receiver, _, _ in machine.unread()]
        test.assertEqual(len(lying), len(set(lying)))
        test.assertFalse(set(received) & set(lying))
        asks = [(name, index) for name, index, _, _ in machine.asks()]
        test.assertEqual(len(asks), len(set(asks)))
        for name, index, door, args in self.keeper.handed_out()[0]:
            test.assertEqual(self.handed.setdefault((name, index), (door, args)), (door, args))
        for name in machine.names():
            run = machine.run(name)
            story = run.story()
            # No question of a wait is forgotten: each open ask has its entry.
            for index, question in run.waits().items():
                test.assertEqual(question[0] == "ask", index in story)
            for index, (question, answer, _) in story.items():
                if question[0] == "receive" and answer is not None and index in run.come_to():
                    test.assertTrue(run.version.kinds().is_value(run.version.key(question[1]), answer[1]))


class OneStoryTest(unittest.TestCase):
    def test_the_order_in_which_answers_came(self):
        for seed in range(25):
            version, chance = random_version(seed), Random(seed)
            start = random_start(version, seed)
            codes, _ = compiled_all(version)
            story = list(stories(version, start, chance, 1, 0.05, 12))[-1]
            run, done = Run(version, "ann", 0, start, story), Execution(version, codes, "ann", 0, start, story)
            for _ in range(3):
                rows = list(story.items())
                chance.shuffle(rows)
                again, anew = Run(version, "ann", 0, start, dict(rows)), Execution(version, codes, "ann", 0, start, dict(rows))
                self.assertTrue(again == run)
                self.assertEqual((again.waits(), again.differences(), again.end(), again.come_to(), again.passed(), again.tree()),
                                 (run.waits(), run.differences(), run.end(), run.come_to(), run.passed(), run.tree()))
                self.assertEqual((anew.waits(), anew.end(), anew.come_to()), (done.waits(), done.end(), done.come_to()))

    def test_schedules(self):
        """Tasks that talk with nobody come to the same ends, whatever the order."""
        body = (("ask", "a", "x", "price", ("n",)), ("both", "b", (("ask", "p", "y", "price", ("x",)),), (("ask", "q", "ok", "flag", ()),)), ("return", ("add", "x", "y")))
        version = version_of(function("run", *body))
        ends = []
        for seed in range(6):
            keeper, chance = Keeper(version), Random(seed)
            for name in ("ann", "bob", "eve"):
                keeper.perform(("launch", name, "run", (len(name) + ord(name[0]),)))
            keeper.flush()
            while keeper.machine().asks():
                name, index, door, args = chance.choice(keeper.machine().asks())
                keeper.perform(("answer", name, index, True if door == "flag" else args[0] * 3))
                if chance.random() < 0.4:
                    keeper.flush()
                if chance.random() < 0.3:
                    keeper = keeper.crash(0)
                if chance.random() < 0.2:
                    keeper.shorten()
            machine = keeper.machine()
            ends.append([(name, machine.task(name).end()) for name in machine.names(living=False)])
        self.assertEqual([end for end in ends if end != ends[0]], [])
        self.assertEqual(len(ends[0]), 3)


class SameTest(unittest.TestCase):
    def test_every_pipeline(self):
        lines = (Pipeline(), Pipeline.standard("1", "2"), Pipeline("dead", ("unroll", "1"), ("unroll", "2"), "copies", "join"))
        for seed in range(9):
            life = SameLife(seed, self, lines[seed % 3])
            self.assertGreater(len(good_records(life.keeper.disk().text())), 0)

    def test_rebuilt_codes(self):
        for seed in range(6):
            life = Life(seed + 100, 20)
            machine = life.machine()
            build = Build(machine.versions()[0], Pipeline.standard("1", "2"))
            for version in machine.versions()[1:]:
                build = build.rebuilt(version)[0]
            codes, version = build.codes(), build.version
            for name in machine.names():
                run = machine.run(name)
                if run.version == version:
                    self.assertIsNone(parting(("run", version, name, run.epoch, run.start), ("code", version, codes, name, run.epoch, run.start), run.story()))


class OnceTest(unittest.TestCase):
    def test_lives(self):
        asked = 0
        for seed in range(200, 270):
            asked += len(OnceLife(seed, self).handed)
        self.assertGreater(asked, 20)

    def test_the_order_of_messages(self):
        give = function("give", ("send", "a", "t", "num", "n"), ("send", "b", "t", "num", ("add", "n", 1)), ("send", "c", "t", "num", ("add", "n", 2)),
                        params=(("n", "int"), ("t", "task")), inner=())
        take = function("take", ("loop", "k", 9, (("receive", "r", "x", "num"), ("set", "y", ("add", ("mul", "y", 10), "x")))), ("return", "y"), params=())
        for seed in range(10):
            keeper, chance = Keeper(version_of(give, take)), Random(seed)
            for name, function_name, args in (("zoe", "take", ()), ("ann", "give", (1, "zoe")), ("bob", "give", (4, "zoe")), ("eve", "give", (6, "zoe"))):
                keeper.perform(("launch", name, function_name, args))
            sent = []
            while "zoe" in keeper.machine().names():
                machine = keeper.machine()
                name, spot = chance.choice(machine.ready())
                if name != "zoe":
                    sent.append(machine.run(name).waits()[spot][3])
                keeper.perform(("do", name, spot))
                keeper.flush()
                if chance.random() < 0.3:
                    keeper.shorten()
                keeper = keeper.crash()
            self.assertEqual(keeper.machine().task("zoe").end(), ("result", int("".join(map(str, sent)))))


class ReplacementTest(unittest.TestCase):
    def test_greatest_and_kind(self):
        let, left = 0, 0
        for seed in range(300, 325):
            life = Life(seed, 35)
            for population, unread, version, names, moved, reasons in life.replaced:
                let += "" not in reasons
                left += len(reasons)
                if "" not in reasons:
                    self.assertTrue(can_move(population, unread, version, moved))
                for name in names:
                    if "" not in reasons:
                        self.assertEqual(name in moved, name not in reasons)
                for name, reason in reasons.items():
                    self.assertTrue(is_reason(population, unread, version, names, name, reason))
                    self.assertEqual(left_worlds(population, unread, version, names, name)[0], reason[0])
            machine = life.machine()
            population = machine.population()
            for _, receiver, key, value in machine.unread():
                version, task = population[receiver]
                if ("receive", key) in [row[:2] for row in may_still(version, task)]:
                    self.assertTrue(version.kinds().is_value(version.key(key), value))
        self.assertTrue(let > 10 and left > 5, (let, left))


class NeededTest(unittest.TestCase):
    def branches(self, codes, name, branch):
        """(code, block, whether it is entered, slots) of each branch of a frame."""
        slots, block, inner = branch
        yield codes[name], block, inner is not None, slots
        if inner is None:
            return
        if isinstance(inner[0], str):
            yield from self.branches(codes, inner[0], inner[1])
            return
        for body in inner:
            if body[0] != "ended":
                yield from self.branches(codes, name, body)

    def test_least_frames(self):
        """What a least frame keeps counts by the place of a call, or has a flow."""
        kept = 0
        for seed in range(12):
            version, chance = random_version(seed), Random(seed)
            start = random_start(version, seed)
            codes, _ = optimized(version, Pipeline.standard("1"))
            for story in list(stories(version, start, chance, 1, 0.0, 6))[::3]:
                try:
                    frame = Execution(version, codes, "ann", 0, start, story).frame()
                except NoFrame:
                    continue
                name, branch = least_frame(codes, frame)
                for code, block, entered, slots in self.branches(codes, name, branch):
                    needed = needed_slots(code, block, entered=entered)
                    held = [slot for slot, value in enumerate(slots) if value is not None]
                    self.assertTrue(set(held) <= set(needed))
                    kept += len(held)
                    for slot in held:
                        if not entered:
                            self.assertIsNotNone(flow(code, block, slot))
        self.assertGreater(kept, 30)

    def test_records(self):
        """Each record that is not idle has worlds; all idle ones can be left out at once."""
        for seed in range(500, 508):
            life = Life(seed, 16)
            versions = life.machine().versions()
            text = life.keeper.disk().text()
            for line, record in enumerate(good_records(text), start=1):
                found = record_worlds(versions, text, line)
                if found is None:
                    self.assertIn(record[0], ("waited", "moved", "frame", "at"))
                else:
                    self.assertTrue(is_record_worlds(versions, text, line, found))


class ReadBackTest(unittest.TestCase):
    def test_versions_indexes_and_records(self):
        for seed in range(15):
            life = Life(seed, 25)
            machine = life.machine()
            for version in machine.versions():
                self.assertTrue(Version.read(str(version)) == version)
                self.assertEqual(str(Version.read(str(version))), str(version))
            for name in machine.names():
                for index in machine.task(name).story():
                    self.assertEqual(parse_index(index_text(index)), index)
            for record in good_records(life.keeper.disk().text()):
                self.assertTrue(repr(read_record(record_text(record))) == repr(record))
                self.assertRaises(InvalidRecord, read_record, record_text(record) + " ")
            self.assertTrue(recover(machine.versions(), life.keeper.disk().text()) == machine)

    def test_frames_in_records(self):
        for seed in range(12):
            life = Life(seed + 50, 20)
            machine = life.machine()
            for name in machine.names():
                run = machine.run(name)
                if run.tree() is None:
                    continue
                codes, maps = compiled_all(run.version)
                record = ("frame", name, "k", frame_of(codes, maps, run))
                again = read_record(record_text(record))
                self.assertEqual(repr(again), repr(record))
                self.assertTrue(is_right_frame(codes, maps, run, again[3]))


class LifeTest(unittest.TestCase):
    def test_they_crash_and_are_replaced(self):
        lives = [Life(seed, 35) for seed in range(700, 710)]
        self.assertGreater(sum(life.crashes for life in lives), 10)
        self.assertGreater(sum(len(life.replaced) for life in lives), 10)

    def test_versions_are_changed(self):
        version = random_version(3)
        self.assertFalse(all(changed(version, Random(seed)) == version for seed in range(10)))
        self.assertRaises(InvalidVersion, Version, [])


if __name__ == "__main__":
    unittest.main()
