"""heldover.judge: what is accepted, and that nothing wrong is."""

import unittest
from random import Random

from heldover.codes import points
from heldover.compiler import compiled, compiled_all
from heldover.errors import InvalidCode, InvalidMap, UnknownName
from heldover.judge import judge
from heldover.pipelines import Pipeline
from tests.anything import ODD
from tests.mutations import mutated
from tests.programs import random_start, random_version
from tests.samples import function, version_of, version_with
from tests.test_execution import DOUBLE, slot, value
from tests.test_runs import VERSION
from tests.watching import first_wrong, stories

WORDS = ("cycle", "place", "entry", "question", "path", "both", "undefined", "many")
N, X, Y, OK = [("var", (), name) for name in ("n", "x", "y", "ok")]
R = ("round", (), "k")


class AcceptTest(unittest.TestCase):
    def test_the_example(self):
        codes, maps = compiled_all(VERSION)
        self.assertIsNone(judge(VERSION, "buy", codes["buy"], maps["buy"]))
        self.assertIsNone(judge(version=VERSION, function="buy", code=codes["buy"], code_map=maps["buy"]))

    def test_what_the_compiler_makes(self):
        for seed in range(60):
            version = random_version(seed)
            codes, maps = compiled_all(version)
            for name in version.names():
                self.assertIsNone(judge(version, name, codes[name], maps[name]), (seed, name))

    def test_large_terms_and_many_paths(self):
        tests = tuple(("if", ("same", "n", number), (("set", "y", number),), (("set", "x", number),)) for number in range(7))
        version = version_with(*tests, ("sleep", "s", 1))
        self.assertEqual(judge(version, "run", *compiled(version, "run")), ("many", 0))
        version = version_with(*tests[:5], ("sleep", "s", 1))
        self.assertIsNone(judge(version, "run", *compiled(version, "run")))
        square = ("set", "x", ("mul", ("add", "x", "n"), ("sub", "x", "y")))
        version = version_with(*[square] * 11, ("sleep", "s", "x"))
        found = judge(version, "run", *compiled(version, "run"))
        self.assertTrue(found is None or found[0] == "many")

    def test_loops_without_a_point(self):
        version = version_with(("loop", "k", 9, ()), ("loop", "l", 2, (("loop", "m", 9, ()),)), ("return", "x"))
        self.assertIsNone(judge(version, "run", *compiled(version, "run")))

    def test_hand_made_codes(self):
        version = version_with(("ask", "a", "x", "price", (("add", "n", 1),)), ("return", "x"))
        ask = ((("a", 0),), (), ("ask", 1, "price", (slot(1),), 2))
        code = ("run", 1, 2, (((), ((1, ("sub", slot(0), value(-1))),), ("jump", 1)), ask, (None, (), ("return", slot(1)))))
        rows = {0: ((N, None), {}), 1: ((None, ("add", value(1), N)), {})}
        self.assertIsNone(judge(version, "run", code, rows))
        # Without a meaning the slot holds nothing at the ask.
        self.assertEqual(judge(version, "run", code, {0: rows[0], 1: ((None, None), {})}), ("undefined", 1))


def exchanged(code):
    """A code whose steps have the operands that may be exchanged the other way round."""
    blocks = []
    for place, steps, end in code[3]:
        found = [(given, (made[0], made[2], made[1]) if made[0] in ("and", "or", "same", "mul") else made) for given, made in steps]
        blocks.append((place, tuple(found), end))
    return (*code[:3], tuple(blocks))


class ExchangeTest(unittest.TestCase):
    """Operands that are exchanged make no fault, whatever they are made of."""

    def check(self, *body):
        version = version_with(("ask", "a", "ok", "flag", ()), ("ask", "b", "no", "flag", ()), ("ask", "c", "x", "price", ("n",)), *body)
        code, rows = compiled(version, "run")
        other = exchanged(code)
        self.assertNotEqual(other, code)
        self.assertIsNone(judge(version, "run", code, rows))
        self.assertIsNone(judge(version, "run", other, rows))

    def test_truths(self):
        for one, other in (("ok", "no"), ("no", "ok")):
            p, q = ("and", one, ("not", other)), ("not", ("and", one, other))
            for word in ("and", "or", "same"):
                self.check(("send", "m", ("self",), "paid", (word, p, q)))
                self.check(("if", (word, p, q), (("return", 1),), (("sleep", "s", "x"),)))

    def test_integers(self):
        d, m = ("div", "n", ("mod", "x", "y")), ("mod", "n", ("div", "x", "y"))
        self.check(("return", ("mul", d, m)))
        self.check(("ask", "d", "y", "price", ("n",)), ("sleep", "s", ("mul", d, m)), ("return", ("add", "x", ("mul", m, d))))


class RejectTest(unittest.TestCase):
    """Single faults, by hand."""

    def setUp(self):
        self.version = version_with(
            ("loop", "k", 2, (("ask", "a", "x", "price", ("n",)), ("if", ("less", "x", 0), (("raise", "dear"),), ()))), ("return", "x"))
        self.code = ("run", 1, 4, (
            ((), ((1, value(0)), (2, value(0))), ("jump", 1)),
            ((("k", slot(2)),), ((3, ("less", slot(2), value(2))),), ("branch", slot(3), 2, 5)),
            ((("k", slot(2)), ("a", 0)), (), ("ask", 1, "price", (slot(0),), 3)),
            (None, ((3, ("less", slot(1), value(0))),), ("branch", slot(3), 4, 6)),
            (None, (), ("raise", "dear")),
            (None, (), ("return", slot(1))),
            (None, ((2, ("add", slot(2), value(1))),), ("jump", 1)),
        ))
        here = (N, X, R, None)
        known = {N: slot(0), X: slot(1)}
        self.rows = {0: ((N, None, None, None), {N: slot(0), X: value(0)}), 1: (here, known), 2: (here, known)}

    def found(self, code=None, rows=None):
        return judge(self.version, "run", code or self.code, rows or self.rows)

    def with_block(self, number, place=-1, steps=None, end=None):
        blocks = list(self.code[3])
        old = blocks[number]
        blocks[number] = (old[0] if place == -1 else place, old[1] if steps is None else steps, end or old[2])
        return (*self.code[:3], tuple(blocks))

    def with_row(self, number, meanings=None, recipes=None):
        old = self.rows[number]
        return {**self.rows, number: (old[0] if meanings is None else meanings, old[1] if recipes is None else recipes)}

    def test_it_is_right(self):
        self.assertIsNone(self.found())

    def test_paths(self):
        less = ("less", slot(1), value(0))
        for code in (
            self.with_block(3, steps=((3, ("less", slot(1), value(1))),)), self.with_block(3, end=("branch", slot(3), 6, 4)),
            self.with_block(3, steps=((3, less),), end=("branch", slot(3), 5, 6)), self.with_block(4, end=("raise", "late")),
            self.with_block(6, steps=((2, ("add", slot(2), value(2))),)), self.with_block(6, steps=()),
            self.with_block(5, end=("return", slot(0))), self.with_block(4, end=("return", slot(1))),
            self.with_block(1, steps=((3, ("less", slot(2), value(3))),)), self.with_block(2, end=("ask", 1, "price", (slot(0),), 6)),
            self.with_block(2, end=("ask", None, "price", (slot(0),), 3)), self.with_block(0, steps=((1, value(1)), (2, value(0)))),
            self.with_block(0, end=("jump", 2)), self.with_block(4, end=("done",)), self.with_block(0, steps=((1, value(0)), (2, value(1)))),
        ):
            self.assertEqual(self.found(code)[0], "path")
        self.assertEqual(self.found(rows=self.with_row(1, (N, X, R, N)))[0], "path")
        self.assertEqual(self.found(rows=self.with_row(2, recipes={X: slot(0)}))[0], "path")
        self.assertEqual(self.found(rows=self.with_row(2, recipes={X: value(True)})), ("path", 1))

    def test_questions(self):
        for end in (("ask", 1, "price", (slot(1),), 3), ("ask", 1, "flag", (slot(0),), 3), ("ask", 1, "price", (), 3),
                    ("ask", 1, "price", (slot(0), slot(0)), 3), ("ask", 1, "price", (value(True),), 3)):
            self.assertEqual(self.found(self.with_block(2, end=end)), ("question", 2))

    def test_undefined(self):
        self.assertEqual(self.found(self.with_block(2, end=("ask", 1, "price", (slot(3),), 3))), ("undefined", 2))
        self.assertEqual(self.found(self.with_block(3, steps=()))[0], "undefined")
        self.assertEqual(self.found(self.with_block(3, steps=((3, slot(1)),))), ("undefined", 2))
        self.assertEqual(self.found(rows=self.with_row(2, (None, X, R, None), {X: slot(1)})), ("undefined", 2))

    def test_entry(self):
        for row in (((X, None, None, None), {}), ((N, N, None, None), {}), ((N, None, None, None), {X: slot(0)}),
                    ((N, None, None, None), {N: value(0)}), ((N, value(0), None, None), {}), ((N, None, None, None), {X: value(1)})):
            self.assertEqual(self.found(rows={**self.rows, 0: row}), ("entry", 0))

    def test_places(self):
        for place in ((("a", 0),), (("k", slot(2)), ("b", 0)), (("k", slot(3)), ("a", 0))):
            self.assertEqual(self.found(self.with_block(2, place))[0], "place")
        self.assertEqual(self.found(self.with_block(2, (("k", slot(1)), ("a", 0))))[0], "path")
        self.assertEqual(self.found(self.with_block(2, (("k", 0), ("a", 0))))[0], "path")
        self.assertEqual(self.found(self.with_block(2, end=("receive", 1, "num", 3))), ("place", 2))
        self.assertEqual(self.found(self.with_block(2, end=("jump", 3))), ("place", 2))
        self.assertEqual(self.found(rows=self.with_row(2, (N, X, ("add", R, value(0)), None))), ("place", 2))
        self.assertEqual(self.found(rows=self.with_row(2, (N, ("var", (), "zz"), R, None)))[0], "place")
        self.assertEqual(self.found(rows=self.with_row(2, (N, ("add", OK, X), R, None)))[0], "place")
        self.assertEqual(self.found(rows=self.with_row(2, recipes={("var", ("c",), "x"): slot(1)}))[0], "place")

    def test_cycles(self):
        code = self.with_block(5, end=("jump", 5))
        self.assertEqual(self.found(code)[0], "cycle")
        self.assertIn(self.found(code)[1], points(code))

    def test_a_slot_for_a_round_that_has_a_number(self):
        blocks = list(self.code[3])
        blocks.append(((("k", 0), ("a", 0)), (), ("ask", 1, "price", (slot(0),), 3)))
        code = (*self.code[:3], tuple(blocks))
        self.assertEqual(self.found(code, {**self.rows, 7: self.rows[2]})[0], "path")

    def test_unreachable_points_do_no_harm(self):
        blocks = list(self.code[3])
        blocks.append(((), (), ("jump", 1)))
        self.assertEqual(self.found((*self.code[:3], tuple(blocks)), {**self.rows, 7: self.rows[0]}), ("place", 7))


class BothTest(unittest.TestCase):
    """Slots that are taken over, and errors of boths."""

    def setUp(self):
        body = ("both", "b", (("sleep", "s", 1), ("set", "x", ("add", "n", 1))), (("sleep", "z", 1), ("set", "y", 5), ("raise", "dear")))
        self.version = version_with(("try", "t", (body,), (("dear", (("return", ("add", "x", "y")),)),)), ("return", "n"))
        self.code, self.rows = compiled(self.version, "run")
        self.at = [number for number, row in enumerate(self.code[3]) if row[2][0] == "both"][0]
        self.end = self.code[3][self.at][2]

    def found(self, end, rows=None):
        blocks = list(self.code[3])
        blocks[self.at] = (*blocks[self.at][:2], end)
        return judge(self.version, "run", (*self.code[:3], tuple(blocks)), rows or self.rows)

    def test_it_is_right(self):
        self.assertIsNone(self.found(self.end))

    def test_changed_ends(self):
        word, one, other, ours, theirs, behind, errors = self.end
        for end in (
            (word, one, other, (), theirs, behind, errors), (word, one, other, ours, (), behind, errors),
            (word, one, other, theirs, ours, behind, errors), (word, other, one, ours, theirs, behind, errors),
            (word, one, one, ours, theirs, behind, errors), (word, one, other, ours, theirs, behind, ()),
            (word, one, other, ours, theirs, behind, (("late", errors[0][1]),)), (word, one, other, ours, theirs, behind, (("dear", behind),)),
            (word, one, other, ours, theirs, behind, (*errors, ("late", errors[0][1]))), (word, one, other, (*ours, 0), theirs, behind, errors),
        ):
            if end[3] == (*ours, 0):
                self.assertIsNone(self.found(end))
            else:
                self.assertEqual(self.found(end)[0] in ("both", "path"), True, end)

    def test_changed_rows(self):
        handler = self.end[6][0][1]
        meanings, recipes = self.rows[handler]
        for variable, other in ((X, Y), (Y, X), (N, X)):
            rows = {**self.rows, handler: (meanings, {**recipes, variable: recipes[other]})}
            self.assertEqual(self.found(self.end, rows)[0], "both")
        swapped = list(meanings)
        swapped[self.end[3][0]], swapped[self.end[4][0]] = Y, X
        self.assertEqual(self.found(self.end, {**self.rows, handler: (tuple(swapped), {})})[0], "both")

    def test_errors_that_get_out_of_bodies_around(self):
        inner = ("both", "i", (("sleep", "s", 1), ("set", "x", 1), ("raise", "dear")), (("sleep", "z", 1), ("set", "y", 2)))
        outer = ("both", "o", (("set", "x", 7), inner, ("set", "x", 9)), (("sleep", "w", 1),))
        version = version_with(("try", "t", (outer,), (("dear", (("return", ("add", "x", "y")),)),)), ("return", "n"))
        code, rows = compiled(version, "run")
        self.assertIsNone(judge(version, "run", code, rows))
        at = [number for number, row in enumerate(code[3]) if row[2][0] == "both" and len(row[0]) == 3][0]
        for change in (3, 4):
            end = list(code[3][at][2])
            end[change] = ()
            blocks = list(code[3])
            blocks[at] = (*blocks[at][:2], tuple(end))
            self.assertIsNotNone(judge(version, "run", (*code[:3], tuple(blocks)), rows))


class SoundTest(unittest.TestCase):
    """Codes and maps with one thing changed: what is accepted is right."""

    def check(self, seed, passes, count):
        version, chance = random_version(seed), Random(seed)
        codes, maps = compiled_all(version)
        name = version.names()[-1]
        codes[name], maps[name] = Pipeline(*passes).applied(version, name)
        start, told, accepted = random_start(version, seed), None, 0
        for _ in range(count):
            found = mutated(chance, codes[name], maps[name])
            if found is None:
                continue
            code, rows, kind = found
            fault = judge(version, name, code, rows)
            if fault is not None:
                self.assertTrue(isinstance(fault, tuple) and len(fault) == 2 and fault[0] in WORDS and fault[1] in points(code), fault)
                continue
            accepted += 1
            told = told or list(stories(version, start, chance, 2))
            self.assertIsNone(first_wrong(version, {**codes, name: code}, {**maps, name: rows}, start, told), (seed, kind))
        return accepted

    def test_of_the_compiler(self):
        self.assertGreater(sum(self.check(seed, (), 15) for seed in range(700, 720)), 20)

    def test_of_passes(self):
        passes = ("constants", "copies", "equals", "hoist", "copies", "dead", "join")
        self.assertGreater(sum(self.check(seed, passes, 15) for seed in range(720, 740)), 20)

    def test_what_is_wrong_is_rejected(self):
        rejected = 0
        for seed in range(740, 755):
            version, chance = random_version(seed), Random(seed)
            codes, maps = compiled_all(version)
            name, start = version.names()[-1], random_start(version, seed)
            told = list(stories(version, start, chance, 1))
            for _ in range(8):
                found = mutated(chance, codes[name], maps[name])
                if found and first_wrong(version, {**codes, name: found[0]}, {**maps, name: found[1]}, start, told):
                    rejected += 1
                    self.assertIsNotNone(judge(version, name, *found[:2]), (seed, found[2]))
        self.assertGreater(rejected, 10)


class ErrorsTest(unittest.TestCase):
    def test_errors_in_their_order(self):
        codes, maps = compiled_all(VERSION)
        for odd in (*ODD, "nope"):
            with self.assertRaises(UnknownName) as caught:
                judge(VERSION, odd, odd, odd)
            self.assertIs(caught.exception.name, odd)
        one = version_of(function("one"), function("run"))
        others = (DOUBLE[:3] + ((),), ("other", *codes["buy"][1:]), ("buy", 0, *codes["buy"][2:]), ("buy", 2, *codes["buy"][2:]))
        for odd in (*ODD, *others):
            with self.assertRaises(InvalidCode) as caught:
                judge(VERSION, "buy", odd, odd)
            self.assertIs(caught.exception.value, odd)
        for odd in (*ODD, {**maps["buy"], 99: maps["buy"][0]}, maps):
            with self.assertRaises(InvalidMap) as caught:
                judge(VERSION, "buy", codes["buy"], odd)
            self.assertIs(caught.exception.value, odd)
        self.assertRaises(InvalidCode, judge, one, "one", compiled(one, "run")[0], maps["buy"])

    def test_nothing_is_changed(self):
        codes, maps = compiled_all(VERSION)
        before = repr((codes, maps))
        judge(VERSION, "buy", codes["buy"], maps["buy"])
        self.assertEqual(repr((codes, maps)), before)
