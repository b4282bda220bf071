"""heldover.pipelines: pipelines, their stages, and optimized codes."""

import unittest
from random import Random

from heldover.compiler import compiled_all
from heldover.errors import InvalidPass, UnknownName
from heldover.judge import judge
from heldover.passes import PASSES, apply_pass
from heldover.pipelines import Pipeline, optimized
from tests.anything import ODD
from tests.programs import random_start, random_version
from tests.samples import function, version_of
from tests.test_runs import VERSION
from tests.watching import first_wrong, stories

ZERO = function("zero", ("sleep", "z", "n"), ("return", ("add", "n", 0)))
ONE = function("one", ("loop", "k", 2, (("call", "c", "x", "zero", ("n",)),)), ("return", "x"))
BOTH = function("pair", ("both", "b", (("sleep", "s", 1),), ()))
RUN = function("run", ("call", "c", "x", "one", ("n",)), ("call", "d", "y", "pair", ("n",)), ("return", "x"))
CALLS = version_of(ZERO, ONE, BOTH, RUN)


class PipelineTest(unittest.TestCase):
    def test_the_examples(self):
        line = Pipeline("constants", "dead") + Pipeline("join")
        self.assertEqual(repr(line), "Pipeline('constants', 'dead', 'join')")
        self.assertEqual((len(line), "join" in line, Pipeline(("unroll", "k")).passes), (3, True, (("unroll", "k"),)))

    def test_invalid_passes(self):
        for odd in (*ODD, "nope", ("inline", "A"), ["inline", "a"]):
            with self.assertRaises(InvalidPass) as caught:
                Pipeline("dead", odd, "nope")
            self.assertIs(caught.exception.value, odd)
            self.assertFalse(odd in Pipeline("dead"))
        with self.assertRaises(InvalidPass) as caught:
            Pipeline.standard("a", "A", "0")
        self.assertEqual(caught.exception.value, ("inline", "A"))

    def test_equality_and_sums(self):
        one, other = Pipeline("dead", ("inline", "a")), Pipeline("dead") + Pipeline(("inline", "a"))
        self.assertTrue(one == other)
        self.assertFalse(one != other)
        self.assertFalse(one == Pipeline(("inline", "a"), "dead"))
        for odd in (*ODD, ("dead", ("inline", "a"))):
            if not type(odd).__name__ == "Thing" and not (isinstance(odd, tuple) and odd and type(odd[0]).__name__ == "Thing"):
                self.assertFalse(one == odd)
        self.assertRaises(TypeError, lambda: one + ("dead",))
        self.assertEqual((len(Pipeline()), repr(Pipeline()), Pipeline().passes), (0, "Pipeline()", ()))
        self.assertTrue(("inline", "a") in one)
        self.assertFalse(("unroll", "a") in one or "join" in one)
        self.assertEqual(repr(one), "Pipeline('dead', ('inline', 'a'))")

    def test_standard(self):
        self.assertIsInstance(Pipeline.STANDARD, tuple)
        self.assertEqual(set(Pipeline.STANDARD), set(PASSES))
        self.assertEqual(Pipeline.standard().passes, Pipeline.STANDARD)
        self.assertEqual(Pipeline.standard("c", "2").passes, (("inline", "c"), ("inline", "2"), *Pipeline.STANDARD))


class StagesTest(unittest.TestCase):
    def test_stages_are_those_of_apply_pass(self):
        line = Pipeline("constants", ("inline", "c"), "copies", ("unroll", "k"), "dead", "join")
        codes, maps = compiled_all(CALLS)
        found = list(line.stages(CALLS, "run"))
        self.assertEqual([one for one, _, _ in found], list(line.passes))
        for one, code, rows in found:
            codes["run"], maps["run"] = apply_pass(one, CALLS, codes, maps, "run")
            self.assertEqual((code, rows), (codes["run"], maps["run"]))
            self.assertIsNone(judge(CALLS, "run", code, rows))
        self.assertEqual(line.applied(CALLS, "run"), found[-1][1:])
        self.assertEqual(Pipeline().applied(CALLS, "run"), (compiled_all(CALLS)[0]["run"], compiled_all(CALLS)[1]["run"]))

    def test_codes_that_are_passed(self):
        codes, maps = compiled_all(CALLS)
        codes["one"], maps["one"] = Pipeline(("inline", "c"), ("unroll", "k")).applied(CALLS, "one")
        line = Pipeline(("inline", "c"))
        code, rows = line.applied(CALLS, "run", codes=codes, maps=maps)
        self.assertEqual((code, rows), apply_pass(("inline", "c"), CALLS, codes, maps, "run"))
        self.assertIn((("c", 0), ("k", 0), ("c", 0), ("z", 0)), [place for place, _, _ in code[3]])
        self.assertNotEqual((code, rows), line.applied(CALLS, "run"))
        for one, other in ((codes, None), (None, maps), (None, None)):
            self.assertEqual(line.applied(CALLS, "run", codes=one, maps=other), line.applied(version=CALLS, function="run"))

    def test_they_are_read_when_the_first_one_is_asked_for(self):
        codes, maps = compiled_all(CALLS)
        other = Pipeline(("inline", "c"), ("unroll", "k")).applied(CALLS, "one")
        line = Pipeline("dead", ("inline", "c"))
        wanted = list(line.stages(CALLS, "run", codes={**codes, "one": other[0]}, maps={**maps, "one": other[1]}))
        going = line.stages(CALLS, "run", codes=codes, maps=maps)
        codes["one"], maps["one"] = other
        self.assertEqual(next(going), wanted[0])
        codes.clear()
        maps["one"].clear()
        maps.clear()
        self.assertEqual(next(going), wanted[1])
        self.assertRaises(StopIteration, next, going)

    def test_stages_that_are_not_gone_through_to_the_end(self):
        line = Pipeline("constants", "dead")
        before = repr(compiled_all(CALLS))
        for one, code, rows in line.stages(CALLS, "run"):
            rows.clear()
            break
        self.assertEqual(repr(compiled_all(CALLS)), before)
        going = line.stages(CALLS, "run")
        next(going)[2].clear()
        self.assertEqual(next(going), list(line.stages(CALLS, "run"))[1])

    def test_unknown_names(self):
        line = Pipeline("dead")
        for odd in (*ODD, "nope"):
            going = line.stages(CALLS, odd)
            for call in (lambda: next(going), lambda: line.applied(CALLS, odd), lambda: line.inlined(CALLS, odd)):
                with self.assertRaises(UnknownName) as caught:
                    call()
                self.assertIs(caught.exception.name, odd)

    def test_inlined(self):
        self.assertEqual(Pipeline("dead").inlined(CALLS, "run"), [])
        self.assertEqual(Pipeline(("inline", "c")).inlined(CALLS, "run"), ["one"])
        self.assertEqual(Pipeline(("inline", "c"), "dead", ("inline", "c")).inlined(version=CALLS, function="run"), ["one", "zero"])
        self.assertEqual(Pipeline(("inline", "d"), ("inline", "z")).inlined(CALLS, "run"), [])
        self.assertEqual(Pipeline(("inline", "c"), ("inline", "c")).inlined(CALLS, "zero"), [])


class OptimizedTest(unittest.TestCase):
    def test_inlined_functions_come_in_as_the_compiler_makes_them(self):
        line = Pipeline(("unroll", "k"), ("inline", "c"), "join")
        codes, maps = optimized(CALLS, line)
        self.assertEqual(sorted(codes), sorted(CALLS.names()))
        for name in CALLS.names():
            self.assertEqual((codes[name], maps[name]), line.applied(CALLS, name))
            self.assertIsNone(judge(CALLS, name, codes[name], maps[name]))
        self.assertNotIn((("c", 0), ("k", 0), ("c", 0)), [place for place, _, _ in codes["run"][3]])

    def test_whole_versions(self):
        for seed in range(900, 925):
            version = random_version(seed)
            line = Pipeline.standard("1", "2", "lca", "lda", "lea", "lfa")
            codes, maps = optimized(version=version, pipeline=line)
            for name in version.names():
                self.assertIsNone(judge(version, name, codes[name], maps[name]), (seed, name))
            start = random_start(version, seed)
            told = list(stories(version, start, Random(seed), 2))
            self.assertIsNone(first_wrong(version, codes, maps, start, told), seed)

    def test_the_example(self):
        codes, maps = optimized(VERSION, Pipeline.standard())
        self.assertIsNone(judge(VERSION, "buy", codes["buy"], maps["buy"]))
        self.assertLess(len(codes["buy"][3]), len(compiled_all(VERSION)[0]["buy"][3]))
