"""heldover.recovery: recovery, short files, what is handed out, and checkpoints."""

import unittest

from heldover.compiler import compiled_all
from heldover.errors import InvalidCodes, InvalidLog, InvalidMap, NotFound
from heldover.execution import Execution
from heldover.frames import frame_of, is_right_frame
from heldover.machine import Machine
from heldover.pipelines import Pipeline, optimized
from heldover.records import good_records, line_text
from heldover.recovery import handed_out, last_checkpoint, recover, short_text
from tests.anything import ODD
from tests.lives import random_life, random_operation
from tests.samples import function, version_of, version_with
from tests.test_machine import SHOP, TALK, A, M, R, S, shop


def file_of(*records):
    """A log file with these records."""
    return "".join(line_text(number, record) for number, record in enumerate(records, start=1))


def answered(name, index, question, answer, moment=0):
    return ("answered", name, index, question, answer, moment)


class RecoveryTest(unittest.TestCase):
    def line(self, records, versions=(SHOP, SHOP)):
        """The line with which recovery of a file of these records raises InvalidLog."""
        with self.assertRaises(InvalidLog) as caught:
            recover(list(versions), file_of(*records))
        return caught.exception.line

    def same_machines(self, one, other):
        self.assertTrue(one == other)
        self.assertEqual((one.asks(), one.ready(), one.unread()), (other.asks(), other.ready(), other.unread()))


class RecoverTest(RecoveryTest):
    def test_an_empty_string(self):
        machine = recover(versions=[SHOP, TALK], text="")
        self.same_machines(machine, Machine(SHOP))
        self.assertEqual(machine.records(), [])

    def test_records_are_performed(self):
        machine = Machine(TALK, TALK)
        machine.launch("ann", "turn", 1)
        machine.launch("bob", "give", 7, "eve")
        machine.launch("eve", "take", 7)
        machine.wait(9)
        machine.rest(6)
        machine.move(["ann"], 1)
        again = recover([TALK, TALK, SHOP], file_of(*machine.records()))
        self.same_machines(again, machine)
        self.assertEqual(again.records(), machine.records())
        self.assertEqual(again.versions(), [TALK, TALK])

    def test_what_stands_behind_the_good_prefix_is_ignored(self):
        records = shop().records()
        for behind in ("2", "2 7 (", '2 7793 ("waited", 5)\n', file_of(("waited", 5))):
            self.same_machines(recover([SHOP], file_of(*records) + behind), shop())

    def test_records_that_of_records_refuses(self):
        started = ("started", "ann", 0, "pay", (3,), 0)
        asked = answered("ann", A, ("ask", "price", (3,)), 7)
        self.assertEqual(self.line([started, started]), 2)
        self.assertEqual(self.line([("started", "ann", 1, "pay", (3,), 0)]), 1)
        self.assertEqual(self.line([("started", "Ann", 0, "pay", (3,), 0)]), 1)
        self.assertEqual(self.line([("started", "ann", 0, "nope", (3,), 0)]), 1)
        self.assertEqual(self.line([("started", "ann", 0, "pay", (True,), 0)]), 1)
        self.assertEqual(self.line([("started", "ann", 0, "pay", (3,), 1)]), 1)
        self.assertEqual(self.line([("waited", 3), ("waited", 2)]), 2)
        self.assertEqual(self.line([started, asked, asked]), 3)
        self.assertEqual(self.line([started, answered("ann", A, ("ask", "price", (3,)), True)]), 2)
        self.assertEqual(self.line([started, answered("ann", A, ("ask", "price", (4,)), 7)]), 2)
        self.assertEqual(self.line([started, answered("ann", A, ("ask", "price", (3,)), 7, 1)]), 2)
        self.assertEqual(self.line([started, answered("ann", M, ("send", "ann", "paid", 7), True)]), 2)
        self.assertEqual(self.line([started, asked, answered("ann", R, ("receive", "paid"), (("ann", M), 7))]), 3)
        self.assertEqual(self.line([started, ("became", "ann", "pay", (3,), 0)]), 2)
        self.assertEqual(self.line([started, ("moved", ("bob",), 0)]), 2)
        self.assertEqual(self.line([started, ("moved", ("ann", "ann"), 0)]), 2)
        self.assertEqual(self.line([started, ("moved", ("ann",), 1)]), 2)
        self.assertEqual(self.line([("version", 0)]), 1)
        self.assertEqual(self.line([("version", 2)]), 1)
        self.assertEqual(self.line([("version", 1), ("version", 1)]), 2)

    def test_versions_behind_the_last_one(self):
        self.assertEqual(self.line([("version", 1), ("version", 2)]), 2)
        self.assertEqual(self.line([("version", 1)], [SHOP]), 1)
        many = [("version", number) for number in range(1, 6)]
        self.assertEqual(self.line(many, [SHOP] * 9), 5)
        self.assertEqual(len(recover([SHOP, TALK, SHOP], file_of(("version", 1))).versions()), 2)

    def test_checkpoints(self):
        frame = ("frame", "ann", "k", (1, "whatever", None))
        records = shop().records()
        machine = recover([SHOP], file_of(*records, frame, frame))
        self.same_machines(machine, shop())
        self.assertEqual(machine.records(), records)
        self.assertEqual(self.line([frame, *records]), 1)
        self.assertEqual(self.line([*records, ("frame", "bob", "k", ())]), 2)
        ended = [*records, answered("ann", A, ("ask", "price", (3,)), 7), answered("ann", M, ("send", "ann", "paid", 7), True)]
        receive = answered("ann", R, ("receive", "paid"), (("ann", M), 7))
        self.assertEqual(self.line([*ended, frame, receive, frame]), 6)


class ShortFileTest(RecoveryTest):
    def setUp(self):
        self.task = ("task", "ann", 0, 0, ("pay", (3,), 0), ())
        self.gone = ("gone", "bob", ("result", 4))
        self.lies = ("lies", "ann", "paid", ("eve", M), 5)
        self.at = ("at", 9, 2, 1)

    def test_line_by_line(self):
        machine = Machine(TALK, SHOP)
        self.assertEqual(good_records(short_text(machine)), [("at", 0, 2, 0)])
        machine.launch("zoe", "quick", 1)
        machine.launch("bob", "fail", 2)
        machine.launch("ann", "take", 0)
        machine.launch("eve", "give", 5, "ann")
        machine.launch("dan", "give", 9, "ann")
        machine.do("eve", M)
        machine.do("dan", M)
        machine.do("eve", (0, ("k", 0)))
        machine.wait(2)
        machine.do("bob", S)
        machine.do("ann", R)
        self.assertEqual(good_records(short_text(machine=machine)), [
            ("at", 2, 2, 0),
            ("gone", "bob", ("error", "dear")), ("gone", "eve", ("result", 5)), ("gone", "zoe", ("result", 1)),
            ("task", "ann", 0, 0, ("take", (0,), 0), ((R, ("receive", "num"), (("eve", M), 5), 2),)),
            ("task", "dan", 0, 0, ("give", (9, "ann"), 0), ((M, ("send", "ann", "num", 9), True, 0),)),
            ("lies", "ann", "num", ("dan", M), 9), ("lies", "ann", "num", ("eve", (0, ("k", 0))), 6),
        ])
        self.same_machines(recover([TALK, SHOP], short_text(machine)), machine)

    def test_open_asks_are_left_out(self):
        records = good_records(short_text(shop()))
        self.assertEqual(records, [("at", 0, 1, 0), self.task])
        self.same_machines(recover([SHOP], file_of(*records)), shop())

    def test_checkpoints_are_sorted_by_names(self):
        frames = (("frame", "bob", "k", (1,)), ("frame", "ann", "k", (2,)), ("frame", "eve", "a", ()))
        for checkpoints in (frames, list(frames)):
            found = good_records(short_text(shop(), checkpoints=checkpoints))
            self.assertEqual(found[2:], [frames[1], frames[0], frames[2]])

    def test_recovery(self):
        machine = recover([SHOP, TALK], file_of(self.at, self.gone, self.task, self.lies))
        self.assertEqual((machine.now, machine.current, machine.versions(), machine.records()), (9, 1, [SHOP, TALK], []))
        self.assertEqual((machine.names(), machine.names(living=False)), (["ann"], ["bob"]))
        self.assertEqual((machine.task("bob").end(), machine.messages("ann", "paid")), (("result", 4), [(("eve", M), 5)]))
        self.assertEqual(machine.asks(), [("ann", A, "price", (3,))])

    def test_records_behind_a_short_file(self):
        versions = [SHOP, TALK, SHOP]
        more = [("frame", "ann", "k", ()), ("version", 2), ("waited", 11), answered("ann", A, ("ask", "price", (3,)), 7, 11)]
        machine = recover(versions, file_of(self.at, self.gone, self.task, self.lies, *more))
        self.assertEqual(machine.records(), more[1:])
        self.assertEqual(machine.ready(), [("ann", M)])
        self.assertEqual(self.line([self.at, self.gone, self.task, ("started", "bob", 1, "quick", (1,), 9)], versions), 4)
        self.assertEqual(self.line([self.at, ("version", 1)], versions), 2)

    def test_any_task_string_can_be_a_name(self):
        task = ("task", "Ann Smith!", 0, 7, ("pay", (3,), 0), ())
        machine = recover([SHOP], file_of(("at", 0, 1, 0), ("gone", "", ("error", "nope")), task, ("lies", "Ann Smith!", "?", ("", M), ("Foo",))))
        self.assertEqual((machine.names(), machine.names(living=False), machine.task("Ann Smith!").epoch), (["Ann Smith!"], [""], 7))
        self.assertEqual(machine.unread(), [(("", M), "Ann Smith!", "?", ("Foo",))])

    def test_what_is_no_task_string_is_no_name(self):
        name = "a" * 201
        for record in (("gone", name, ("result", 1)), ("task", name, 0, 0, ("pay", (3,), 0), ())):
            self.assertEqual(self.line([self.at, record]), 2)
            shorter = (record[0], name[1:], *record[2:])
            self.assertTrue(name[1:] in recover([SHOP, SHOP], file_of(self.at, shorter)))

    def test_the_beginning(self):
        for at in (("at", 0, 0, 0), ("at", 0, 3, 0), ("at", 0, 2, 2), ("at", 0, 1, 1), ("at", 0, 6, 0)):
            self.assertEqual(self.line([at]), 1)
            self.assertEqual(self.line([at, self.task]), 1)
        self.assertEqual(self.line([("at", 0, 6, 0)], [SHOP] * 9), 1)
        self.assertEqual(len(recover([SHOP] * 9, file_of(("at", 0, 5, 4))).versions()), 5)
        self.assertEqual(self.line([("waited", 0), self.at]), 2)
        self.assertEqual(self.line([self.at, self.at]), 2)

    def test_the_four_kinds_in_the_midst(self):
        for record in (self.gone, self.task, self.lies):
            self.assertEqual(self.line([record]), 1)
            self.assertEqual(self.line([("waited", 0), record]), 2)
            self.assertEqual(self.line([self.at, ("waited", 9), record]), 3)
        self.assertEqual(self.line([self.at, self.task, self.gone]), 3)
        self.assertEqual(self.line([self.at, self.task, self.lies, self.task]), 4)
        self.assertEqual(self.line([self.at, self.task, self.lies, self.gone]), 4)
        self.assertEqual(self.line([self.at, self.task, ("frame", "ann", "k", ()), self.lies]), 4)
        self.assertEqual(self.line([self.at, ("frame", "ann", "k", ()), self.task]), 2)
        other = ("gone", "abe", ("result", 4))
        self.assertEqual(len(recover([SHOP, SHOP], file_of(self.at, self.gone, other)).names(living=False)), 2)

    def test_names_that_occur_again(self):
        self.assertEqual(self.line([self.at, self.gone, self.gone]), 3)
        self.assertEqual(self.line([self.at, ("gone", "ann", ("result", 1)), self.task]), 3)
        self.assertEqual(self.line([self.at, self.task, self.task]), 3)

    def test_tasks(self):
        start = ("pay", (3,), 0)
        asked = (A, ("ask", "price", (3,)), 7, 0)
        for record in (
            ("task", "ann", 2, 0, start, ()), ("task", "ann", 0, 0, ("nope", (), 0), ()), ("task", "ann", 0, 0, ("pay", (True,), 0), ()),
            ("task", "ann", 0, 0, ("pay", (), 0), ()),
            ("task", "ann", 0, 0, start, ((A, ("ask", "price", (4,)), 7, 0),)), ("task", "ann", 0, 0, start, ((M, ("sleep", 1), True, 0),)),
            ("task", "ann", 0, 1, start, (asked,)),
            ("task", "ann", 0, 0, start, (asked, (M, ("send", "ann", "paid", 7), True, 0), (R, ("receive", "paid"), (("x", M), 7), 0))),
        ):
            told = (*record[:5], tuple(sorted(record[5])))
            self.assertEqual(self.line([self.at, told]), 2)
        self.assertEqual(self.line([("at", 0, 1, 0), ("task", "ann", 0, 0, ("fail", (1,), 0), ((S, ("sleep", 1), True, 0),))], [TALK]), 2)
        becoming = ("task", "ann", 0, 0, ("turn", (1,), 0), ((S, ("sleep", 5), True, 9),))
        self.assertEqual(recover([TALK], file_of(("at", 9, 1, 0), becoming)).ready(), [("ann", (0,))])

    def test_messages_for_a_task_that_is_not_living(self):
        for receiver in ("bob", "zoe", ""):
            self.assertEqual(self.line([self.at, self.gone, self.task, ("lies", receiver, "paid", ("eve", M), 5)]), 4)

    def test_a_mark_that_is_passed_by_open_asks_alone(self):
        ask = ("ask", "a", "x", "price", (1,))
        old = version_with(ask)
        new = version_with(("since", "v", (("sleep", "s", 1),), ()), ask)
        machine = Machine(old, new)
        machine.launch("ann", "run", 1)
        machine.move(["ann"], 1)
        self.assertEqual((machine.run("ann").passed(), machine.asks()), ([(0, ("v", 0))], [("ann", A, "price", (1,))]))
        again = recover([old, new], short_text(machine))
        self.assertFalse(again == machine)
        self.assertEqual((again.asks(), again.ready()), ([], [("ann", (0, ("v", 0)))]))
        self.same_machines(recover([old, new], file_of(*machine.records())), machine)

    def test_by_chance(self):
        """The machine from a short file equals the one from the long file, also after the same further operations."""
        for seed in range(25):
            versions, chance = random_life(seed)
            machine = Machine(versions[0])
            for _ in range(25):
                operation, version = random_operation(machine, chance, versions)
                machine.perform(operation, version)
            again = recover(versions, short_text(machine))
            self.same_machines(again, machine)
            self.same_machines(recover(versions, file_of(*machine.records())), machine)
            self.assertEqual(again.records(), [])
            count = len(machine.records())
            for _ in range(12):
                operation, version = random_operation(machine, chance, versions)
                self.assertEqual(machine.perform(operation, version), again.perform(operation, version))
                self.same_machines(again, machine)
            self.assertEqual(machine.records()[count:], again.records())
            self.same_machines(recover(versions, short_text(machine)), machine)
            self.same_machines(recover(versions, file_of(*good_records(short_text(again)))), again)


class HandedOutTest(RecoveryTest):
    def test_what_is_permanent(self):
        machine = shop()
        machine.launch("bob", "pay", 4)
        records = machine.records()
        self.assertEqual(handed_out(machine, [SHOP], ""), ([], []))
        self.assertEqual(handed_out(machine, [SHOP], file_of(records[0])), ([("ann", A, "price", (3,))], []))
        self.assertEqual(handed_out(machine=machine, versions=[SHOP], text=file_of(*records)),
                         ([("ann", A, "price", (3,)), ("bob", A, "price", (4,))], []))
        machine.answer("ann", A, 7)
        self.assertEqual(handed_out(machine, [SHOP], file_of(*records)), ([("bob", A, "price", (4,))], []))
        machine.rest()
        self.assertEqual(handed_out(machine, [SHOP], file_of(*machine.records()[:-1])), ([("bob", A, "price", (4,))], []))
        self.assertEqual(handed_out(machine, [SHOP], file_of(*machine.records())), ([("bob", A, "price", (4,))], [("ann", ("result", 8))]))

    def test_lists_are_sorted(self):
        machine = Machine(TALK)
        for name in ("zoe", "ann", "max"):
            machine.launch(name, "quick", 3)
        ends = [(name, ("result", 3)) for name in ("ann", "max", "zoe")]
        self.assertEqual(handed_out(machine, [TALK], file_of(*machine.records())), ([], ends))
        self.assertEqual(handed_out(machine, [TALK], file_of(machine.records()[0])), ([], ends[2:]))

    def test_errors(self):
        with self.assertRaises(InvalidLog) as caught:
            handed_out(shop(), [SHOP], file_of(("waited", 1), ("version", 1)))
        self.assertEqual(caught.exception.line, 2)


PAUSE = version_of(
    function("deep", ("sleep", "s", "n"), ("set", "x", ("add", "n", 1)), ("ask", "q", "y", "price", ("x",)), ("return", "y")),
    function("run", ("sleep", "a", 1), ("call", "c", "x", "deep", ("n",)), ("sleep", "b", "x"), ("become", "run", ("x",))),
)
PAUSE_CODES, PAUSE_MAPS = compiled_all(PAUSE)


def frame_now(machine, name="ann"):
    return frame_of(PAUSE_CODES, PAUSE_MAPS, machine.run(name))


class CheckpointTest(RecoveryTest):
    def setUp(self):
        self.machine = Machine(PAUSE)
        self.machine.launch("ann", "run", 3)
        self.machine.launch("bob", "run", 4)
        self.first = frame_now(self.machine)
        self.machine.wait(1)
        self.records = self.machine.records()
        self.machine.do("ann", A)
        self.second = frame_now(self.machine)
        self.more = self.machine.records()[len(self.records):]

    def last(self, *records, name="ann", key="k", codes=PAUSE_CODES, maps=PAUSE_MAPS):
        return last_checkpoint([PAUSE], file_of(*records), name, key=key, codes=codes, maps=maps)

    def frame(self, frame, name="ann", key="k"):
        return ("frame", name, key, frame)

    def test_the_last_right_one(self):
        self.assertIsNone(self.last(*self.records))
        self.assertEqual(self.last(*self.records, self.frame(self.first)), self.first)
        both = [*self.records, self.frame(self.first), *self.more, self.frame(self.second)]
        self.assertEqual(self.last(*both), self.second)
        self.assertEqual(last_checkpoint(versions=[PAUSE], text=file_of(*both), name="ann", key="k", codes=PAUSE_CODES, maps=PAUSE_MAPS), self.second)

    def test_those_that_were_right_when_they_were_written(self):
        self.assertEqual(self.last(*self.records, self.frame(self.first), *self.more), self.first)
        self.assertIsNone(self.last(*self.records, *self.more, self.frame(self.first)))
        self.assertIsNone(self.last(*self.records, self.frame(self.second), *self.more))

    def test_later_ones_that_are_spoilt(self):
        name, (slots, block, inner) = self.first
        spoilt = [
            (name, ((99, *slots[1:]), block, inner)), (name, (slots, block + 1, inner)), ("deep", (slots, block, inner)),
            (name, (slots, block, inner), 1), (name, (slots, block)), (), (1, 2), self.second, (name, ((True, *slots[1:]), block, inner)),
        ]
        for frame in spoilt:
            self.assertIsNone(self.last(*self.records, self.frame(frame)))
        frames = [self.frame(frame) for frame in spoilt]
        self.assertEqual(self.last(*self.records, self.frame(self.first), *frames), self.first)

    def test_other_keys_and_tasks(self):
        records = [*self.records, self.frame(self.first), self.frame(self.first, key="z")]
        self.assertEqual(self.last(*records, key="z"), self.first)
        self.assertIsNone(self.last(*records, key="y"))
        self.assertIsNone(self.last(*records, name="bob"))
        machine = recover([PAUSE], file_of(*self.records))
        of_bob = frame_now(machine, "bob")
        self.assertNotEqual(of_bob, self.first)
        self.assertEqual(self.last(*records, self.frame(of_bob, "bob"), name="bob"), of_bob)
        self.assertIsNone(self.last(*records, self.frame(self.first, "bob"), name="bob"))

    def test_in_a_short_file_and_behind_it(self):
        machine = recover([PAUSE], file_of(*self.records))
        short = good_records(short_text(machine, [self.frame(self.first)]))
        self.assertEqual(self.last(*short), self.first)
        self.assertEqual(self.last(*short, *self.more, self.frame(self.second)), self.second)
        self.assertEqual(self.last(*short, *self.more, self.frame(self.first)), self.first)

    def test_a_task_that_becomes_another_one(self):
        machine = recover([PAUSE], file_of(*self.records, *self.more))
        machine.wait(3)
        machine.do("ann", (0, ("c", 0), ("s", 0)))
        machine.answer("ann", (0, ("c", 0), ("q", 0)), -2)
        machine.do("ann", (0, ("b", 0)))
        self.assertEqual(machine.run("ann").end(), ("become", "run", (-2,)))
        records = machine.records()
        self.assertIsNone(self.last(*records, self.frame(self.first)))
        machine.do("ann", (0,))
        frame = frame_now(machine)
        self.assertEqual(self.last(*machine.records(), self.frame(frame)), frame)

    def test_optimized_codes(self):
        codes, maps = optimized(PAUSE, Pipeline.standard("c"))
        machine = recover([PAUSE], file_of(*self.records, *self.more))
        run = machine.run("ann")
        frame = Execution(PAUSE, codes, "ann", 0, run.start, run.story()).frame()
        self.assertTrue(is_right_frame(codes, maps, run, frame))
        records = [*self.records, *self.more, self.frame(frame, key="fast")]
        self.assertEqual(self.last(*records, key="fast", codes=codes, maps=maps), frame)
        self.assertIsNone(self.last(*records, key="fast"))

    def test_errors_in_their_order(self):
        wrong = [*self.records, ("waited", 0)]
        for name in (*ODD, "zoe"):
            with self.assertRaises(InvalidLog) as caught:
                self.last(*wrong, name=name, codes=3, maps=3)
            self.assertEqual(caught.exception.line, len(wrong))
            with self.assertRaises(NotFound) as found:
                self.last(*self.records, name=name, codes=3, maps=3)
            self.assertIs(found.exception.value, name)
        for odd in ODD:
            if not isinstance(odd, dict) or odd:
                with self.assertRaises(InvalidCodes) as found:
                    self.last(*self.records, codes=odd, maps=3)
                self.assertIsNone(found.exception.name)
            with self.assertRaises(InvalidMap) as found:
                self.last(*self.records, maps=odd)
            self.assertIs(found.exception.value, odd)
        with self.assertRaises(NotFound):
            self.last(*good_records(short_text(Machine(PAUSE))), name="ann")


if __name__ == "__main__":
    unittest.main()
