"""heldover.log: disks and keepers, through crashes and shortenings."""

import unittest

from heldover.compiler import compiled_all
from heldover.errors import (
    Conflict, InvalidArguments, InvalidCodes, InvalidCount, InvalidLog, InvalidMap, InvalidMinutes, InvalidName, InvalidOperation,
    InvalidRecord, NotFound, NotReady, TooMany,
)
from heldover.log import Disk, Keeper
from heldover.machine import Machine
from heldover.records import good_prefix, good_records, line_text
from heldover.recovery import handed_out, last_checkpoint, recover, short_text
from tests.anything import ODD, nested
from tests.lives import random_life, random_operation
from tests.samples import version_with
from tests.test_machine import SHOP, TALK, A, M, R
from tests.test_recovery import PAUSE, PAUSE_CODES, PAUSE_MAPS, file_of, frame_now


def launched(version=SHOP, function="pay", *args):
    keeper = Keeper(version)
    keeper.perform(("launch", "ann", function, args or (3,)))
    return keeper


def text_of(keeper):
    return keeper.disk().text()


class DiskTest(unittest.TestCase):
    def test_writing_and_flushing(self):
        disk = Disk()
        self.assertEqual((disk.text(), disk.flushed, len(disk)), ("", 0, 0))
        self.assertIsNone(disk.write("ab"))
        disk.write(text="")
        disk.write("c\n")
        self.assertEqual((disk.text(), disk.flushed, len(disk)), ("abc\n", 0, 4))
        self.assertIsNone(disk.flush())
        self.assertEqual(disk.flushed, 4)
        disk.write("d")
        self.assertEqual((disk.text(), disk.flushed, len(disk)), ("abc\nd", 4, 5))
        disk.flush()
        disk.flush()
        self.assertEqual(disk.flushed, 5)

    def test_a_disk_with_a_file(self):
        disk = Disk(text="abc")
        self.assertEqual((disk.text(), disk.flushed, len(disk)), ("abc", 3, 3))

    def test_replacing(self):
        disk = Disk("abc")
        disk.write("def")
        self.assertIsNone(disk.replace("xy"))
        self.assertEqual((disk.text(), disk.flushed), ("xy", 2))
        disk.replace("")
        self.assertEqual((disk.text(), disk.flushed), ("", 0))

    def test_crashes(self):
        disk = Disk("abc")
        disk.write("def")
        for kept in range(4):
            found = disk.crash(kept=kept)
            self.assertEqual((found.text(), found.flushed), ("abcdef"[:3 + kept], 3 + kept))
        self.assertEqual(disk.crash().text(), "abc")
        self.assertEqual((disk.text(), disk.flushed), ("abcdef", 3))
        found = disk.crash(1)
        found.write("zz")
        disk.write("g")
        self.assertEqual((found.text(), disk.text()), ("abcdzz", "abcdefg"))
        for odd in (*ODD, 5, -1):
            if type(odd) is not int or not 0 <= odd <= 4:
                with self.assertRaises(InvalidCount) as caught:
                    disk.crash(odd)
                self.assertIs(caught.exception.value, odd)
        disk.flush()
        self.assertRaises(InvalidCount, disk.crash, 1)

    def test_equality(self):
        one, other = Disk("ab"), Disk("a")
        other.write("b")
        self.assertFalse(one == other)
        self.assertTrue(one != other)
        other.flush()
        self.assertTrue(one == other)
        self.assertFalse(one == Disk("ac"))
        for odd in ("ab", None, 2, ["ab"]):
            self.assertFalse(one == odd)


class KeeperTest(unittest.TestCase):
    def raises(self, error, call, *arguments, **more):
        """The error of a call, which changes nothing."""
        keeper = call.__self__
        machine, records, disk = keeper.machine(), keeper.machine().records(), keeper.disk()
        with self.assertRaises(error) as caught:
            call(*arguments, **more)
        self.assertTrue(keeper.machine() == machine)
        self.assertEqual(keeper.machine().records(), records)
        self.assertTrue(keeper.disk() == disk)
        return caught.exception

    def test_the_beginning(self):
        keeper = Keeper(version=SHOP)
        self.assertTrue(keeper.machine() == Machine(SHOP))
        self.assertTrue(keeper.disk() == Disk())
        self.assertEqual(keeper.handed_out(), ([], []))

    def test_every_operation(self):
        keeper, machine = Keeper(SHOP), Machine(SHOP)
        for operation, version in (
            (("wait", 3), None), (("launch", "ann", "pay", (3,)), None), (("answer", "ann", A, 7), None), (("answer", "ann", A, 7), None),
            (("version",), TALK), (("version",), SHOP), (("do", "ann", M), None), (("move", ["ann"], 2), None), (("rest", 0), None), (("rest", 9), None),
            (("wait", 0), None), (("move", (), 1), None), (("launch", "bob", "quick", (5,)), None),
        ):
            self.assertEqual(keeper.perform(operation, version), machine.perform(operation, version))
            self.assertTrue(keeper.machine() == machine)
            self.assertEqual(text_of(keeper), file_of(*machine.records()))
        self.assertEqual(keeper.disk().flushed, 0)
        self.assertEqual({record[0] for record in machine.records()}, {"waited", "started", "answered", "version", "moved"})
        self.assertEqual(keeper.perform(operation=("version",), version=SHOP), 3)
        turning = launched(TALK, "turn", 1)
        turning.perform(("wait", 5))
        turning.perform(("rest", 5))
        self.assertEqual([record[0] for record in good_records(text_of(turning))], ["started", "waited", "answered", "became"])

    def test_refused_operations_write_nothing(self):
        keeper = launched()
        keeper.perform(("answer", "ann", A, 7))
        self.raises(InvalidMinutes, keeper.perform, ("wait", -1))
        self.raises(Conflict, keeper.perform, ("answer", "ann", A, 8))
        self.raises(NotFound, keeper.perform, ("answer", "bob", A, 8))
        self.raises(NotReady, keeper.perform, ("do", "ann", R))
        self.raises(InvalidName, keeper.perform, ("launch", "Ann", "pay", (3,)))
        self.raises(InvalidArguments, keeper.perform, ("launch", "bob", "pay", ()))
        self.raises(InvalidCount, keeper.perform, ("rest", -1))
        self.raises(InvalidArguments, keeper.perform, ("move", "ann", 0))
        for odd in ODD:
            self.assertIs(self.raises(InvalidOperation, keeper.perform, odd).value, odd)
        for _ in range(4):
            keeper.perform(("version",), SHOP)
        self.assertEqual(self.raises(TooMany, keeper.perform, ("version",), SHOP).what, "versions")

    def test_copies(self):
        keeper = launched()
        keeper.machine().answer("ann", A, 7)
        keeper.machine().wait(4)
        keeper.disk().write("x")
        keeper.disk().flush()
        self.assertEqual((keeper.machine().now, keeper.machine().asks()), (0, [("ann", A, "price", (3,))]))
        self.assertEqual((text_of(keeper), keeper.disk().flushed), (file_of(("started", "ann", 0, "pay", (3,), 0)), 0))
        machine, disk = keeper.machine(), keeper.disk()
        keeper.perform(("wait", 1))
        keeper.flush()
        self.assertEqual((machine.now, disk.flushed, len(disk)), (0, 0, len(file_of(("started", "ann", 0, "pay", (3,), 0)))))

    def test_flushing(self):
        keeper = launched()
        self.assertIsNone(keeper.flush())
        self.assertEqual(keeper.disk().flushed, len(keeper.disk()))
        keeper.perform(("wait", 1))
        self.assertLess(keeper.disk().flushed, len(keeper.disk()))


class HandingOutTest(KeeperTest):
    def test_nothing_ahead_of_a_flush(self):
        keeper = launched()
        ask = ("ann", A, "price", (3,))
        self.assertEqual(keeper.handed_out(), ([], []))
        keeper.flush()
        self.assertEqual(keeper.handed_out(), ([ask], []))
        keeper.perform(("launch", "bob", "pay", (4,)))
        self.assertEqual(keeper.handed_out(), ([ask], []))
        keeper.flush()
        self.assertEqual(keeper.handed_out(), ([ask, ("bob", A, "price", (4,))], []))
        keeper.perform(("answer", "ann", A, 7))
        keeper.perform(("rest", 9))
        self.assertEqual(keeper.handed_out(), ([("bob", A, "price", (4,))], []))
        keeper.flush()
        self.assertEqual(keeper.handed_out(), ([("bob", A, "price", (4,))], [("ann", ("result", 8))]))

    def test_a_shortened_file_is_permanent(self):
        keeper = launched()
        keeper.shorten()
        self.assertEqual(keeper.handed_out(), ([("ann", A, "price", (3,))], []))


class CrashTest(KeeperTest):
    def setUp(self):
        self.keeper = launched()
        self.keeper.perform(("wait", 2))
        self.keeper.flush()
        self.keeper.perform(("answer", "ann", A, 7))
        self.keeper.perform(("rest", 1))
        self.keeper.perform(("version",), TALK)

    def test_each_number_of_kept_characters(self):
        keeper, whole = self.keeper, self.keeper.disk()
        records = keeper.machine().records()
        for kept in range(len(whole) - whole.flushed + 1):
            text = whole.text()[:whole.flushed + kept]
            again = keeper.crash(kept)
            count = text.count("\n")
            self.assertTrue(again.machine() == Machine.of_records([SHOP, TALK], records[:count]))
            self.assertEqual(again.machine().records(), records[:count])
            self.assertTrue(again.disk() == Disk(file_of(*records[:count])))
            again.perform(("wait", 5))
            self.assertEqual(text_of(again), file_of(*records[:count], ("waited", 7)))
            self.assertEqual(again.disk().flushed, len(file_of(*records[:count])))
        self.assertTrue(keeper.disk() == whole)
        self.assertEqual(keeper.machine().records(), records)
        self.assertTrue(keeper.crash().machine() == Machine.of_records([SHOP], records[:2]))

    def test_errors(self):
        for odd in ODD:
            if type(odd) is not int or odd < 0 or odd > 99:
                self.assertIs(self.raises(InvalidCount, self.keeper.crash, odd).value, odd)
        left = len(self.keeper.disk()) - self.keeper.disk().flushed
        self.raises(InvalidCount, self.keeper.crash, left + 1)
        self.assertTrue(self.keeper.crash(kept=left).machine() == self.keeper.machine())

    def test_recovered_with_an_end_that_is_not_good(self):
        text = text_of(self.keeper)
        for behind in ("", "6", "6 1 (", '6 7793 ("waited", 5)\n', "\n"):
            disk = Disk(text + behind)
            keeper = Keeper.recovered([SHOP, TALK], disk)
            self.assertTrue(keeper.disk() == Disk(text))
            self.assertTrue(keeper.machine() == self.keeper.machine())
            self.assertEqual(disk.text(), text + behind)
            keeper.perform(("wait", 1))
            self.assertEqual(text_of(keeper), text + line_text(6, ("waited", 3)))
        half = Disk(text[:10])
        half.write(text[10:])
        self.assertTrue(Keeper.recovered(versions=[SHOP, TALK], disk=half).disk() == Disk(text))
        self.assertEqual(half.flushed, 10)

    def test_recovered_from_what_cannot_be(self):
        with self.assertRaises(InvalidLog) as caught:
            Keeper.recovered([SHOP], Disk(text_of(self.keeper)))
        self.assertEqual(caught.exception.line, 5)


class ShorteningTest(KeeperTest):
    def setUp(self):
        self.keeper = Keeper(PAUSE)
        for name, n in (("ann", 3), ("bob", 4)):
            self.keeper.perform(("launch", name, "run", (n,)))
        self.keeper.perform(("wait", 1))
        self.frames = {name: frame_now(self.keeper.machine(), name) for name in ("ann", "bob")}

    def shorten(self, keeper=None, key="k", codes=PAUSE_CODES, maps=PAUSE_MAPS):
        keeper = keeper or self.keeper
        keeper.shorten(key=key, codes=codes, maps=maps)
        return [record for record in good_records(text_of(keeper)) if record[0] == "frame"]

    def test_a_short_file(self):
        machine = self.keeper.machine()
        self.assertIsNone(self.keeper.shorten())
        self.assertTrue(self.keeper.disk() == Disk(short_text(machine)))
        self.assertTrue(self.keeper.machine() == machine)
        count = text_of(self.keeper).count("\n")
        self.keeper.perform(("do", "ann", A))
        self.assertEqual(text_of(self.keeper), short_text(machine) + line_text(count + 1, self.keeper.machine().records()[-1]))
        self.assertTrue(self.keeper.crash(0).machine() == machine)
        self.assertTrue(self.keeper.crash(0).disk() == Disk(short_text(machine)))
        self.assertEqual(self.keeper.crash(0).machine().records(), [])
        machine = self.keeper.machine()
        self.keeper.shorten()
        self.assertTrue(self.keeper.disk() == Disk(short_text(machine)))
        self.assertTrue(Keeper.recovered([PAUSE], self.keeper.disk()).machine() == machine)

    def test_checkpoints(self):
        self.assertIsNone(self.keeper.checkpoint("ann", "k", self.frames["ann"]))
        self.keeper.checkpoint(name="bob", key="k", frame=self.frames["bob"])
        self.assertEqual(good_records(text_of(self.keeper))[-2:], [("frame", name, "k", self.frames[name]) for name in ("ann", "bob")])
        self.keeper.perform(("wait", 0))
        self.assertEqual(good_records(text_of(self.keeper))[-1], ("waited", 1))
        again = self.keeper.crash(len(self.keeper.disk()))
        self.assertTrue(again.machine() == self.keeper.machine())
        self.assertTrue(again.disk().text() == text_of(self.keeper))

    def test_errors_of_checkpoints(self):
        for odd in (*ODD, "zoe"):
            self.assertIs(self.raises(NotFound, self.keeper.checkpoint, odd, odd, odd).value, odd)
        for key, frame in ((1, ()), ("k", None), ("k", [1]), ("k", (10 ** 250,)), ("k" * 401, ()), ("%", ()), (None, ()), ("k", nested(40, ()))):
            self.assertIsNone(self.raises(InvalidRecord, self.keeper.checkpoint, "ann", key, frame).position)
        self.keeper.checkpoint("ann", "k", ("anything", 1, None))

    def test_which_checkpoints_are_kept(self):
        frames = self.frames
        self.keeper.checkpoint("bob", "k", frames["bob"])
        self.keeper.checkpoint("ann", "k", frames["ann"])
        self.keeper.checkpoint("ann", "z", frames["ann"])
        self.keeper.checkpoint("ann", "k", ("spoilt",))
        text = text_of(self.keeper)
        self.keeper.shorten()
        self.assertNotIn("frame", text_of(self.keeper))
        for codes, maps in ((None, PAUSE_MAPS), (PAUSE_CODES, None), (None, None)):
            keeper = Keeper.recovered([PAUSE], Disk(text))
            self.assertEqual(self.shorten(keeper, codes=codes, maps=maps), [])
        kept = [("frame", name, "k", frames[name]) for name in ("ann", "bob")]
        keeper = Keeper.recovered([PAUSE], Disk(text))
        self.assertEqual(self.shorten(keeper), kept)
        self.assertEqual(self.shorten(keeper), kept)
        self.assertEqual(last_checkpoint([PAUSE], text_of(keeper), "ann", key="k", codes=PAUSE_CODES, maps=PAUSE_MAPS), frames["ann"])
        keeper = Keeper.recovered([PAUSE], Disk(text))
        self.assertEqual(self.shorten(keeper, key="z"), [("frame", "ann", "z", frames["ann"])])
        for key in ("y", None):
            keeper = Keeper.recovered([PAUSE], Disk(text))
            self.assertEqual(self.shorten(keeper, key=key), [])

    def test_those_that_are_not_right_now_are_not_kept(self):
        self.keeper.checkpoint("ann", "k", self.frames["ann"])
        self.keeper.checkpoint("bob", "k", self.frames["bob"])
        self.keeper.perform(("do", "ann", A))
        self.assertEqual(self.shorten(), [("frame", "bob", "k", self.frames["bob"])])

    def test_one_that_is_right_again_now_but_was_not_when_it_was_written(self):
        keeper = Keeper(PAUSE)
        keeper.perform(("launch", "ann", "run", (3,)))
        keeper.perform(("wait", 1))
        ahead = keeper.machine()
        ahead.do("ann", A)
        keeper.checkpoint("ann", "k", frame_now(ahead))
        keeper.perform(("do", "ann", A))
        self.assertEqual(self.shorten(keeper), [])

    def test_errors(self):
        for odd in ODD:
            if odd is not None and (not isinstance(odd, dict) or odd):
                self.assertIsNone(self.raises(InvalidCodes, self.keeper.shorten, key="k", codes=odd, maps=3).name)
            if odd is not None:
                self.assertIs(self.raises(InvalidMap, self.keeper.shorten, key=None, codes=PAUSE_CODES, maps=odd).value, odd)
        with self.assertRaises(TypeError):
            self.keeper.shorten("k", PAUSE_CODES, PAUSE_MAPS)

    def test_a_mark_that_is_passed_by_open_asks_alone(self):
        ask = ("ask", "a", "x", "price", (1,))
        old, new = version_with(ask), version_with(("since", "v", (("sleep", "s", 1),), ()), ask)
        keeper = Keeper(old)
        keeper.perform(("launch", "ann", "run", (1,)))
        keeper.perform(("version",), new)
        keeper.perform(("move", ["ann"], 1))
        keeper.shorten()
        self.assertEqual(keeper.machine().asks(), [("ann", A, "price", (1,))])
        self.assertEqual(keeper.handed_out(), ([], []))
        self.assertEqual(keeper.crash().machine().ready(), [("ann", (0, ("v", 0)))])


class ChanceTest(KeeperTest):
    """Lives by chance with flushes, crashes and shortenings: guarantees (a), (b) and (c)."""

    def has_asked(self, machine, name, index):
        """Whether an ask that was handed out is open, or has an answer, or its task has gone on or ended."""
        if name in machine.names(living=False):
            return True
        task = machine.task(name)
        return task.epoch > index[0] or index in task.story()

    def test_lives(self):
        for seed in range(40, 70):
            versions, chance = random_life(seed)
            keeper = Keeper(versions[0])
            # The machine behind each line of the file; a short file has one machine behind all its lines.
            behind, handed = {0: keeper.machine()}, ([], [])
            for _ in range(30):
                event = chance.random()
                if event < 0.15:
                    keeper.flush()
                elif event < 0.22:
                    machine = keeper.machine()
                    keeper.shorten()
                    self.assertTrue(recover(versions, text_of(keeper)) == machine)
                    behind = {text_of(keeper).count("\n"): machine}
                elif event < 0.3:
                    disk = keeper.disk()
                    kept = chance.randint(0, len(disk) - disk.flushed)
                    lines = disk.text()[:disk.flushed + kept].count("\n")
                    keeper = keeper.crash(kept)
                    behind = {line: machine for line, machine in behind.items() if line <= lines}
                    self.assertEqual(good_prefix(disk.text()[:disk.flushed + kept]), text_of(keeper))
                    self.assertTrue(keeper.machine() == behind[lines])
                    for name, index, _, _ in handed[0]:
                        self.assertTrue(self.has_asked(keeper.machine(), name, index))
                    for name, end in handed[1]:
                        self.assertEqual(keeper.machine().task(name).end(), end)
                else:
                    operation, version = random_operation(keeper.machine(), chance, versions)
                    count = len(keeper.machine().records())
                    first = text_of(keeper).count("\n")
                    before = keeper.machine()
                    keeper.perform(operation, version)
                    for number, record in enumerate(keeper.machine().records()[count:], start=1):
                        self.assertTrue(before.repeat(record, versions))
                        behind[first + number] = before.clone()
                    self.assertTrue(before == keeper.machine())
                now = keeper.handed_out()
                self.assertEqual(now, handed_out(keeper.machine(), versions, text_of(keeper)[:keeper.disk().flushed]))
                self.assertEqual(now, (sorted(now[0]), sorted(now[1])))
                handed = (handed[0] + now[0], handed[1] + now[1])


if __name__ == "__main__":
    unittest.main()
