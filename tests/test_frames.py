"""heldover.frames: frames and maps by the form, and what the one says by the other."""

import unittest
from random import Random

from heldover.compiler import compiled_all
from heldover.errors import InvalidCode, InvalidCodes, InvalidMap, InvalidTerm, NoFrame, NoPoint
from heldover.execution import Execution
from heldover.frames import frame_of, is_frame, is_map, is_right_frame, term_value, values_in
from heldover.runs import Run
from tests.anything import ODD, nested, tagged
from tests.programs import random_entry, random_start, random_version
from tests.samples import function, version_of, version_with
from tests.test_execution import DOUBLE, START, code_of, slot, value
from tests.test_runs import VERSION

CODES, MAPS = compiled_all(VERSION)
ASKED = {(0, ("a", 0)): (("ask", "price", (3,)), 7, 12)}
N, P, OK = [("var", (), name) for name in ("n", "p", "ok")]


def run_of(version, start, story):
    return Run(version, "ann", 0, start, story)


class IsFrameTest(unittest.TestCase):
    def setUp(self):
        self.frame = Execution(VERSION, CODES, "ann", 0, START, ASKED).frame()

    def test_right_ones(self):
        self.assertTrue(is_frame(CODES, self.frame))
        self.assertTrue(is_frame({"buy": DOUBLE}, ("buy", ((None, ("Foo", 1)), 1, None))))
        self.assertFalse(is_frame({}, self.frame))
        name, (slots, block, (one, other)) = self.frame
        ended = ("ended", slots, None)
        self.assertTrue(is_frame(CODES, (name, (slots, block, (ended, other)))))
        self.assertTrue(is_frame(CODES, (name, (slots, block, (one, ("ended", slots, "dear"))))))

    def test_one_thing_changed(self):
        name, (slots, block, (one, other)) = self.frame
        ended = ("ended", slots, None)
        for wrong in (
            ("nope", (slots, block, (one, other))), [name, (slots, block, (one, other))], (name, [slots, block, (one, other)]),
            (name, (slots[1:], block, (one, other))), (name, ((*slots, 1), block, (one, other))),
            (name, (list(slots), block, (one, other))), (name, ((3.5, *slots[1:]), block, (one, other))),
            (name, ((("foo",), *slots[1:]), block, (one, other))), (name, (slots, True, (one, other))),
            (name, (slots, -1, (one, other))), (name, (slots, len(CODES["buy"][3]), (one, other))), (name, (slots, 0, None)),
            (name, (slots, block, None)), (name, (slots, block, [one, other])), (name, (slots, block, (one, other, other))),
            (name, (slots, block, (ended, ended))), (name, (slots, block, (("ended", slots[1:], None), other))),
            (name, (slots, block, (("ended", slots, "Bad"), other))), (name, (slots, block, (("ended", slots), other))),
            (name, (slots, block, (("over", slots, None), other))), (name, (slots, one[1], (one, other))),
            (name, (slots, block, (one, other)), 1), (name, (slots, block, (name, one))),
        ):
            self.assertFalse(is_frame(CODES, wrong), wrong)
        for odd in ODD:
            self.assertFalse(is_frame(CODES, odd))
            self.assertFalse(is_frame(CODES, (name, odd)))
            self.assertFalse(is_frame(CODES, (name, (slots, block, odd))))
            if odd is not None and not isinstance(odd, (int, str)):
                self.assertFalse(is_frame(CODES, (name, ((odd, *slots[1:]), block, (one, other)))))

    def call_codes(self):
        return {"run": code_of(((), (), ("jump", 1)), ((("c", 0),), (), ("call", 0, "run", (slot(0),), 2, ())),
                               (None, (), ("return", slot(0)))),
                "one": code_of(((), (), ("jump", 1)), ((("s", 0),), (), ("sleep", slot(0), 1)), name="one")}

    def test_calls(self):
        codes = self.call_codes()
        codes["run"] = ("run", 1, 4, (codes["run"][3][0], (*codes["run"][3][1][:2], ("call", 0, "one", (), 2, ())), codes["run"][3][2]))
        slots = (None,) * 4
        good = ("run", (slots, 1, ("one", (slots, 1, None))))
        self.assertTrue(is_frame(codes, good))
        for wrong in (
            ("run", (slots, 1, None)), ("run", (slots, 1, ("run", (slots, 1, None)))), ("run", (slots, 1, (slots, 1, None))),
            ("run", (slots, 1, ("one", (slots, 0, None)))), ("run", (slots, 2, None)),
        ):
            self.assertFalse(is_frame(codes, wrong), wrong)

    def nest(self, depth, last):
        codes = self.call_codes()
        slots = (None,) * 4
        frame = ("run", (slots, 1, last))
        for _ in range(depth):
            frame = ("run", (slots, 1, frame))
        return codes, frame

    def test_sixty_and_sixty_one(self):
        codes, _ = self.nest(0, None)
        codes["run"] = code_of(
            ((), (), ("jump", 1)), ((("c", 0),), (), ("call", 0, "run", (slot(0),), 2, ())), (None, (), ("return", slot(0))),
            ((("s", 0),), (), ("sleep", slot(0), 1)), ((("b", 0),), (), ("both", 2, 2, (), (), 5, ())), ((("b", 2),), (), ("jump", 1)))
        slots = (None,) * 4
        for depth, last in ((60, (slots, 3, None)), (59, (slots, 4, ((slots, 3, None), ("ended", slots, None))))):
            for more, good in ((0, True), (1, False)):
                frame = ("run", last)
                for _ in range(depth + more):
                    frame = ("run", (slots, 1, frame))
                self.assertEqual(is_frame(codes, frame), good, (depth, more))

    def test_errors(self):
        for odd in ODD:
            if not isinstance(odd, dict) or odd:
                with self.assertRaises(InvalidCodes) as caught:
                    is_frame(odd, self.frame)
                self.assertIsNone(caught.exception.name)


class IsMapTest(unittest.TestCase):
    def setUp(self):
        self.code = CODES["buy"]
        self.rows = MAPS["buy"]

    def test_right_ones(self):
        self.assertTrue(is_map(self.code, self.rows))
        self.assertTrue(is_map(DOUBLE, {0: ((N, None), {}), 1: ((None, None), {N: None, ("var", ("c",), "x"): slot(1)})}))

    def with_row(self, meanings, recipes):
        return {0: ((N, None), {}), 1: (meanings, recipes)}

    def test_one_thing_changed(self):
        good = ((N, None), {})
        for wrong in (
            {0: good}, {0: good, 1: good, 2: good}, {0: good, True: good}, {0: good, "1": good}, {0: good, 2: good},
            {0: good, 1: [*good]}, {0: good, 1: (*good, 1)}, [good, good],
            self.with_row((N,), {}), self.with_row((N, None, None), {}), self.with_row([N, None], {}),
            self.with_row((slot(0), None), {}), self.with_row((("answer",), None), {}), self.with_row((3, None), {}),
            self.with_row((("var", (), "N"), None), {}), self.with_row((("var", [], "n"), None), {}),
            self.with_row((("round", (), "0"), None), {}), self.with_row((("var", (), "n", 1), None), {}),
            self.with_row((None, None), []), self.with_row((None, None), {"n": slot(0)}), self.with_row((None, None), {slot(0): slot(0)}),
            self.with_row((None, None), {("round", (), "k"): slot(0)}), self.with_row((None, None), {N: slot(2)}),
            self.with_row((None, None), {N: N}), self.with_row((None, None), {N: ("add", slot(0), slot(2))}),
            self.with_row((None, None), {N: slot(True)}), self.with_row((None, None), {N: ("value", 1.5)}),
        ):
            self.assertFalse(is_map(DOUBLE, wrong), wrong)
        for odd in ODD:
            self.assertFalse(is_map(self.code, odd))
            if not isinstance(odd, tuple) or any(part is not None for part in odd) or len(odd) != 2:
                self.assertFalse(is_map(DOUBLE, self.with_row(odd, {})))
            if odd is not None:
                self.assertFalse(is_map(DOUBLE, self.with_row((odd, None), {})))
                self.assertFalse(is_map(DOUBLE, self.with_row((None, None), {N: odd})))

    def test_paths_and_levels(self):
        for length, good in ((20, True), (21, False)):
            meaning = ("var", ("c",) * length, "n")
            self.assertEqual(is_map(DOUBLE, self.with_row((meaning, None), {})), good)
            self.assertEqual(is_map(DOUBLE, self.with_row((None, None), {meaning: slot(0)})), good)
        for levels, good in ((10, True), (11, False), (1000, False)):
            meaning, recipe = N, slot(1)
            for _ in range(levels):
                meaning, recipe = ("not", meaning), ("not", recipe)
            self.assertEqual(is_map(DOUBLE, self.with_row((meaning, None), {})), good)
            self.assertEqual(is_map(DOUBLE, self.with_row((None, None), {N: recipe})), good)

    def test_errors(self):
        for odd in (*ODD, CODES):
            with self.assertRaises(InvalidCode) as caught:
                is_map(odd, self.rows)
            self.assertIs(caught.exception.value, odd)


class TermValueTest(unittest.TestCase):
    def test_every_operation(self):
        values = {N: 7, ("round", ("c",), "k"): 2, slot(3): ("Mix", 1, "a"), OK: True}
        for term, wanted in (
            (N, 7), (("round", ("c",), "k"), 2), (slot(3), ("Mix", 1, "a")), (value(False), False), (("self",), "ann"),
            (("add", N, value(1)), 8), (("sub", N, N), 0), (("mul", N, N), 49), (("div", N, value(0)), 0),
            (("div", value(-1), N), -1), (("mod", value(-1), N), 6), (("less", N, value(8)), True), (("same", N, N), True),
            (("and", OK, value(False)), False), (("or", OK, value(False)), True), (("not", OK), False),
            (("tag", "Foo", N, OK), ("Foo", 7, True)), (("tag", "Foo"), ("Foo",)), (("is", "Mix", slot(3)), True),
            (("is", "Red", slot(3)), False), (("part", 1, slot(3)), "a"), (("part", 0, ("tag", "Foo", N)), 7),
        ):
            found = term_value(term, values, task="ann")
            self.assertEqual((found, type(found)), (wanted, type(wanted)), term)
        self.assertEqual(term_value(("self",), {}), "")

    def test_none(self):
        deep = value(tagged(12))
        for term in (
            N, slot(0), ("add", N, value(1)), ("add", value(True), value(1)), ("not", value(1)), ("part", 2, value(("Mix", 1, 2))),
            ("part", 0, value(5)), ("and", value(True), N), ("less", value("a"), value(1)), ("tag", "Foo", deep), ("is", "Red", N),
        ):
            self.assertIsNone(term_value(term, {P: 1}), term)

    def test_errors(self):
        term = N
        for levels in range(1, 12):
            term = ("not", term)
            if levels <= 10:
                self.assertIsNone(term_value(term, {}))
        for odd in (*ODD, term, ("answer",), ("slot", 100), ("slot", -1), ("add", N), ("nope", N, N), ("value",), ("part", 3, N),
                    ("tag", "foo"), ("tag", "Foo", N, N, N, N), ("var", ("c",) * 21, "n"), nested(1000), ("self", N)):
            with self.assertRaises(InvalidTerm) as caught:
                term_value(odd, {})
            self.assertIs(caught.exception.value, odd)


class FrameOfTest(unittest.TestCase):
    def test_by_hand(self):
        run = run_of(VERSION, START, ASKED)
        frame = frame_of(CODES, MAPS, run)
        done = Execution(VERSION, CODES, "ann", 0, START, ASKED).frame()
        self.assertEqual((frame[0], frame[1][1]), (done[0], done[1][1]))
        self.assertEqual(frame[1][0][:2], (3, 7))
        self.assertTrue(is_frame(CODES, frame))
        self.assertTrue(is_right_frame(CODES, MAPS, run, done))
        self.assertTrue(is_right_frame(CODES, MAPS, run, frame))

    def test_wrong_frames(self):
        run = run_of(VERSION, START, ASKED)
        name, (slots, block, (one, other)) = frame_of(CODES, MAPS, run)
        for wrong in (
            (name, ((4, *slots[1:]), block, (one, other))), (name, (slots, block, (other, one))),
            (name, (slots, block, (("ended", slots, None), other))), (name, (slots, block, (one, ("ended", slots, None)))),
            frame_of(CODES, MAPS, run_of(VERSION, START, {})), (name, ((True, *slots[1:]), block, (one, other))),
        ):
            self.assertFalse(is_right_frame(CODES, MAPS, run, wrong), wrong)
        for odd in ODD:
            self.assertFalse(is_right_frame(CODES, MAPS, run, odd))

    def test_slots_without_a_meaning_are_left_out(self):
        run = run_of(VERSION, START, {})
        (slots, block, _) = frame_of(CODES, MAPS, run)[1]
        maps = {"buy": {point: row for point, row in MAPS["buy"].items()}}
        maps["buy"][block] = ((None,) * len(slots), {})
        self.assertTrue(is_right_frame(CODES, maps, run, ("buy", ((99,) * len(slots), block, None))))
        self.assertEqual(frame_of(CODES, maps, run), ("buy", ((None,) * len(slots), block, None)))

    def ended(self):
        """A version whose first body has ended with an error while the second one waits."""
        body = ("both", "b", (("set", "x", 5), ("raise", "dear")), (("sleep", "s", "n"), ("set", "y", 6)))
        version = version_with(("try", "t", (body,), (("dear", (("return", "x"),)),)), ("return", "y"))
        return version, *compiled_all(version)

    def test_ended_bodies(self):
        version, codes, maps = self.ended()
        run = run_of(version, ("run", (3,), 0), {})
        done = Execution(version, codes, "ann", 0, ("run", (3,), 0), {}).frame()
        self.assertTrue(is_right_frame(codes, maps, run, done))
        name, (slots, block, (one, other)) = done
        self.assertEqual((one[0], one[2]), ("ended", "dear"))
        end = codes["run"][3][block][2]
        made = frame_of(codes, maps, run)[1][2][0]
        for number, held in enumerate(made[1]):
            self.assertEqual(held, 5 if number in end[3] else None)
        taken = end[3][0]
        for at in range(len(slots)):
            changed = list(one[1])
            changed[at] = 77
            body = ("ended", tuple(changed), "dear")
            self.assertEqual(is_right_frame(codes, maps, run, (name, (slots, block, (body, other)))), at != taken)
        body = ("ended", one[1], "late")
        self.assertFalse(is_right_frame(codes, maps, run, (name, (slots, block, (body, other)))))

    def test_the_meaning_at_the_first_block_of_an_error(self):
        version, codes, maps = self.ended()
        run = run_of(version, ("run", (3,), 0), {})
        block = frame_of(codes, maps, run)[1][1]
        end = codes["run"][3][block][2]
        count = codes["run"][2]
        rows = dict(maps["run"])
        rows[end[5]] = ((None,) * count, {})
        self.assertEqual(frame_of(codes, {"run": rows}, run)[1][2][0][1][end[3][0]], 5)
        rows[end[6][0][1]] = ((None,) * count, {})
        self.assertEqual(frame_of(codes, {"run": rows}, run)[1][2][0][1], (None,) * count)

    def test_the_block_with_the_fewest_slots_in_its_place(self):
        version = version_with(("loop", "k", 3, (("sleep", "s", 1),)))
        codes, maps = compiled_all(version)
        name, parameters, slots, blocks = codes["run"]
        block = [number for number, row in enumerate(blocks) if row[2][0] == "sleep"][0]
        more = ((("k", 0), ("s", 0)), (), blocks[block][2])
        doubled = (name, parameters, slots, (*blocks, more, more))
        rows = {**maps["run"], len(blocks): maps["run"][block], len(blocks) + 1: maps["run"][block]}
        run = run_of(version, ("run", (3,), 0), {})
        self.assertEqual(frame_of({"run": doubled}, {"run": rows}, run)[1][1], len(blocks))
        story = {(0, ("k", 0), ("s", 0)): (("sleep", 1), True, 0)}
        self.assertEqual(frame_of({"run": doubled}, {"run": rows}, run_of(version, ("run", (3,), 0), story))[1][1], block)

    def test_against_executions(self):
        count = 0
        for seed in range(500, 540):
            version = random_version(seed)
            codes, maps = compiled_all(version)
            start, chance, story = random_start(version, seed), Random(seed), {}
            for moment in range(15):
                run = run_of(version, start, story)
                if run.tree() is None:
                    with self.assertRaises(NoFrame):
                        frame_of(codes, maps, run)
                    break
                done = Execution(version, codes, "ann", 0, start, story).frame()
                made = frame_of(codes, maps, run)
                self.assertTrue(is_frame(codes, done) and is_frame(codes, made))
                self.assertTrue(is_right_frame(codes, maps, run, done) and is_right_frame(codes, maps, run, made))
                if made != done:
                    count += 1
                waits = {index: question for index, question in run.waits().items() if index not in story}
                if not waits:
                    break
                index = chance.choice(sorted(waits))
                story[index] = random_entry(version, chance, waits[index], index, moment, 0.05)
        self.assertGreater(count, 0)

    def test_errors(self):
        run, over = run_of(VERSION, START, {}), run_of(VERSION, START, {(0, ("a", 0)): (("ask", "price", (1,)), 7, 12)})
        ended = run_of(version_with(), ("run", (1,), 0), {})
        self.assertIsNotNone(frame_of(CODES, MAPS, over))
        for call in (frame_of, lambda codes, maps, run: is_right_frame(codes, maps, run, None)):
            for odd in ODD:
                if not isinstance(odd, dict) or odd:
                    self.assertRaises(InvalidCodes, call, odd, odd, ended)
            for odd in (*ODD, {"buy": 1}, {"other": MAPS["buy"]}, {"buy": {}}):
                with self.assertRaises(InvalidMap) as caught:
                    call(CODES, odd, ended)
                self.assertIs(caught.exception.value, odd)
            self.assertRaises(NoFrame, call, CODES, MAPS, ended)
            self.assertRaises(NoFrame, call, CODES, {**MAPS, "more": 1}, ended)
            double = {"buy": {0: ((N, None), {}), 1: ((N, None), {})}}
            with self.assertRaises(NoPoint) as caught:
                call({"buy": DOUBLE}, double, run_of(VERSION, START, ASKED))
            self.assertEqual(caught.exception.value, (("b", 0),))
        self.assertTrue(is_right_frame(codes=CODES, maps=MAPS, run=run, frame=frame_of(codes=CODES, maps=MAPS, run=run)))

    def test_nothing_fits_within_a_call(self):
        one = function("one", ("sleep", "s", "n"))
        two = function("two", ("call", "c", "x", "one", ("n",)))
        version = version_of(one, two)
        codes, maps = compiled_all(version)
        run = run_of(version, ("two", (1,), 0), {})
        name, parameters, slots, blocks = codes["two"]
        block = [number for number, row in enumerate(blocks) if row[2][0] == "call"][0]
        changed = (*blocks[:block], (blocks[block][0], (), ("mark", 0, 0)), *blocks[block + 1:])
        with self.assertRaises(NoPoint) as caught:
            frame_of({**codes, "two": (name, parameters, slots, changed)}, maps, run)
        self.assertEqual(caught.exception.value, (("c", 0),))


class ValuesInTest(unittest.TestCase):
    def test_values(self):
        rows = {0: ((N, None), {}), 1: ((None, None), {N: slot(0), P: ("add", slot(0), slot(1)), OK: None})}
        self.assertEqual(values_in(DOUBLE, rows, 1, (3, 4)), {N: 3, P: 7, OK: None})
        self.assertEqual(values_in(DOUBLE, rows, 1, (3, None)), {N: 3, P: None, OK: None})
        self.assertEqual(values_in(code=DOUBLE, code_map=rows, point=0, slots=(3, None)), {})

    def test_errors(self):
        rows = {0: ((N, None), {}), 1: ((None, None), {})}
        for odd in ODD:
            self.assertRaises(InvalidCode, values_in, odd, rows, 1, (1, 2))
            self.assertRaises(InvalidMap, values_in, DOUBLE, odd, 9, (1, 2))
        for odd in (*ODD[:3], -1, 2, 3, "1", (), [], (1,)):
            if odd == 0 and odd is not False:
                continue
            with self.assertRaises(NoPoint) as caught:
                values_in(DOUBLE, rows, odd, (1, 2))
            self.assertIs(caught.exception.value, odd)
