"""heldover.passes: each clause of [51] and [54] to [58], alone, twice and in several orders."""

import unittest
from random import Random

from heldover.codes import WAITING_WORDS, is_code, points
from heldover.compiler import compiled_all
from heldover.errors import InvalidPass, UnknownName
from heldover.execution import Execution
from heldover.frames import is_map
from heldover.judge import judge
from heldover.passes import PASSES, apply_pass, is_pass
from heldover.runs import Run
from heldover.syntax import statements
from tests.anything import ODD
from tests.clauses import broken, is_plain, reachable
from tests.programs import random_start, random_version
from tests.samples import function, version_of, version_with
from tests.test_execution import DOUBLE, slot, value
from tests.test_runs import VERSION
from tests.watching import first_wrong, stories

LOOPING = version_with(
    ("set", "x", ("add", "n", 1)), ("loop", "k", 3, (
        ("send", "m", ("self",), "num", ("mul", "n", 2)), ("set", "y", ("add", ("mul", "n", 2), "x")), ("sleep", "s", "y"))),
    ("return", "y"))


def after(version, name, *passes):
    """The code and the map of a function behind passes."""
    codes, maps = compiled_all(version)
    for one in passes:
        codes[name], maps[name] = apply_pass(one, version, codes, maps, name)
    return codes[name], maps[name]


def places_with(code, word):
    """The places of the blocks with this end."""
    return [place for place, _, end in code[3] if end[0] == word]


class IsPassTest(unittest.TestCase):
    def test_passes(self):
        self.assertEqual(PASSES, ("constants", "copies", "equals", "dead", "hoist", "join"))
        for one in (*PASSES, ("inline", "a"), ("unroll", "99"), ("inline", "1")):
            self.assertTrue(is_pass(one))
        for odd in (*ODD, "inline", "unroll", ("inline",), ["inline", "a"], ("inline", "A"), ("unroll", ""), ("unroll", "0"),
                    ("dead", "a"), ("inline", 1), ("inline", "a", "b"), ("dead",)):
            self.assertFalse(is_pass(odd))

    def test_errors(self):
        codes, maps = compiled_all(VERSION)
        for odd in (*ODD, "nope", ("inline", "A")):
            with self.assertRaises(InvalidPass) as caught:
                apply_pass(odd, VERSION, codes, maps, odd)
            self.assertIs(caught.exception.value, odd)
            with self.assertRaises(UnknownName) as caught:
                apply_pass("dead", VERSION, codes, maps, odd)
            self.assertIs(caught.exception.name, odd)

    def test_the_example(self):
        codes, maps = compiled_all(VERSION)
        code, code_map = apply_pass("dead", VERSION, codes, maps, "buy")
        self.assertIsNone(judge(VERSION, "buy", code, code_map))
        self.assertEqual(apply_pass(one="dead", version=VERSION, codes=codes, maps=maps, function="buy"), (code, code_map))

    def test_nothing_is_shared_or_changed(self):
        for one in (*PASSES, ("inline", "c"), ("unroll", "k")):
            codes, maps = compiled_all(LOOPING)
            before = repr((codes, maps))
            code, rows = apply_pass(one, LOOPING, codes, maps, "run")
            self.assertEqual(repr((codes, maps)), before)
            known = repr(rows)
            for row in maps["run"].values():
                row[1].clear()
            maps["run"].clear()
            self.assertEqual(repr(rows), known)
            self.assertTrue(is_code(code) and is_map(code, rows))


class ChanceTest(unittest.TestCase):
    """Passes in several orders over versions with every statement."""

    def labels(self, version, name):
        found = [one for other in version.names() for _, one in statements(version.function(other)[4]) if one[0] == "call"]
        loops = [one for _, one in statements(version.function(name)[4]) if one[0] == "loop"]
        return [one[1] for one in found] or ["c"], [one[1] for one in loops] or ["k"]

    def orders(self, seed, count):
        version, chance = random_version(seed), Random(seed)
        name = version.names()[-1]
        calls, loops = self.labels(version, name)
        told = list(stories(version, random_start(version, seed), chance, 2))
        for _ in range(count):
            codes, maps = compiled_all(version)
            done, plain = [], True
            for _ in range(chance.randint(2, 7)):
                one = chance.choice((*PASSES, *PASSES, ("inline", chance.choice(calls)), ("unroll", chance.choice(loops))))
                if one == "constants" and self.hoists_behind_unroll(done):
                    one = "dead"
                if one[0] == "unroll":
                    plain = plain and is_plain(version, name, codes[name], one[1])
                self.apply(version, name, codes, maps, one, seed, done)
                done.append(one)
            self.hold(version, name, codes, maps, random_start(version, seed), told, (seed, done), plain)

    def hoists_behind_unroll(self, done):
        unrolled = [at for at, one in enumerate(done) if one[0] == "unroll"]
        return bool(unrolled) and "hoist" in done[unrolled[0]:]

    def apply(self, version, name, codes, maps, one, seed, done):
        before = (codes[name], maps[name])
        result = apply_pass(one, version, codes, maps, name)
        self.assertEqual(result, apply_pass(one, version, codes, maps, name))
        self.assertTrue(is_code(result[0]) and is_map(*result))
        self.assertEqual(broken(one, version, name, before, result), [], (seed, done, one))
        codes[name], maps[name] = result

    def hold(self, version, name, codes, maps, start, told, why, plain):
        self.assertIsNone(first_wrong(version, codes, maps, start, told), why)
        if plain and reachable(codes[name]) >= set(points(codes[name])):
            self.assertIsNone(judge(version, name, codes[name], maps[name]), why)

    def test_several_orders(self):
        for seed in range(800, 850):
            self.orders(seed, 2)

    def test_each_pass_alone_and_twice(self):
        for seed in range(850, 870):
            version, chance = random_version(seed), Random(seed)
            name, start = version.names()[-1], random_start(version, seed)
            told = list(stories(version, start, chance, 1))
            for one in PASSES:
                codes, maps = compiled_all(version)
                for _ in range(2):
                    self.apply(version, name, codes, maps, one, seed, [])
                    self.assertIsNone(first_wrong(version, codes, maps, start, told), (seed, one))

    def test_no_execution_does_more_blocks(self):
        for seed in range(870, 890):
            version, chance = random_version(seed), Random(seed)
            name, start = version.names()[-1], random_start(version, seed)
            codes, maps = compiled_all(version)
            told = list(stories(version, start, chance, 1))
            done = [Execution(version, codes, "ann", 0, start, story).blocks_done for story in told]
            for one in ("constants", "copies", "equals", "dead", "join", "dead", "constants", "join"):
                codes[name], maps[name] = apply_pass(one, version, codes, maps, name)
                now = [Execution(version, codes, "ann", 0, start, story).blocks_done for story in told]
                self.assertTrue(all(new <= old for new, old in zip(now, done)), (seed, one))
                done = now


class ClauseTest(unittest.TestCase):
    """By hand, for each pass."""

    def steps(self, code):
        return [step for _, steps, _ in code[3] for step in steps]

    def test_constants(self):
        version = version_with(
            ("set", "x", 2), ("if", ("less", "x", 3), (("set", "y", ("mul", "x", "x")),), (("sleep", "no", 1),)),
            ("send", "m", ("self",), "num", ("add", "y", "n")), ("return", ("add", "x", "y")))
        code, rows = after(version, "run", "constants", "join")
        self.assertNotIn("branch", [end[0] for _, _, end in code[3]])
        self.assertEqual(places_with(code, "sleep"), [])
        self.assertIn(("return", value(6)), [end for _, _, end in code[3]])
        at = [number for number, row in enumerate(code[3]) if row[2][0] == "send"][0]
        self.assertEqual(rows[at][1]["var", (), "x"], value(2))
        self.assertIsNone(judge(version, "run", code, rows))

    def test_a_round_that_is_always_the_first(self):
        version = version_with(("loop", "k", 3, (("sleep", "s", 1), ("break",))), ("return", "n"))
        code, rows = after(version, "run", "constants", "dead", "join")
        self.assertIsNone(judge(version, "run", code, rows))

    def test_copies(self):
        version = version_with(("set", "x", "n"), ("set", "y", "x"), ("return", ("add", "y", "x")))
        code, _ = after(version, "run", "copies")
        self.assertIn(("add", slot(0), slot(0)), [operation for _, operation in self.steps(code)])
        code, _ = after(version_with(("set", "x", "n"), ("set", "n", 1), ("return", "x")), "run", "copies")
        self.assertEqual(code[3][-1][2] if code[3][-1][2][0] == "return" else code[3][0][2], ("return", slot(1)))
        code, _ = after(version_with(("set", "x", "x"), ("return", "x")), "run", "copies")
        self.assertNotIn((1, slot(1)), self.steps(code))

    def test_equals(self):
        version = version_with(("set", "x", ("mul", "n", "n")), ("set", "y", ("mul", "n", "n")), ("return", ("add", "x", "y")))
        code, _ = after(version, "run", "equals")
        self.assertEqual([operation[0] for _, operation in self.steps(code)].count("mul"), 1)
        version = version_with(("set", "x", ("mul", "n", "n")), ("set", "n", 1), ("set", "y", ("mul", "n", "n")), ("return", "y"))
        code, _ = after(version, "run", "equals")
        self.assertEqual([operation[0] for _, operation in self.steps(code)].count("mul"), 2)
        version = version_with(("set", "t", ("self",)), ("send", "m", ("self",), "num", 1), ("return", "n"))
        code, _ = after(version, "run", "equals")
        self.assertEqual(self.steps(code).count((5, ("self",))), 1)

    def test_dead(self):
        version = version_with(("set", "x", ("add", "n", 1)), ("sleep", "s", 1), ("set", "x", 5), ("return", "x"))
        code, rows = after(version, "run", "dead")
        self.assertNotIn("add", [operation[0] for _, operation in self.steps(code)])
        at = [number for number, row in enumerate(code[3]) if row[2][0] == "sleep"][0]
        self.assertEqual((set(rows[at][0]), rows[at][1]), ({None}, {}))
        self.assertIsNone(judge(version, "run", code, rows))

    def test_dead_doubles_blocks(self):
        version = version_with(
            ("both", "b", (("set", "x", 1),), (("raise", "dear"),)), ("both", "c", (("set", "x", 3),), (("raise", "dear"),)))
        joined = after(version, "run", "join")
        self.assertEqual(broken("dead", version, "run", joined, after(version, "run", "join", "dead")), [])
        self.assertGreater(len(after(version, "run", "join", "dead")[0][3]), len(joined[0][3]))

    def test_hoist(self):
        code, rows = after(LOOPING, "run", "hoist")
        self.assertIsNone(judge(LOOPING, "run", code, rows))
        ahead = [row for row in code[3] if row[0] is None and ("mul", slot(0), value(2)) in [one for _, one in row[1]]]
        self.assertEqual(len(ahead), 1)
        self.assertIn(("self",), [operation for _, operation in ahead[0][1]])
        head = [number for number, row in enumerate(code[3]) if row[0] and row[0][-1][0] == "k"][0]
        self.assertIn(("mul", ("var", (), "n"), value(2)), rows[head][0])
        self.assertEqual(ahead[0][2], ("jump", head))

    def test_hoist_from_loops_within_loops(self):
        inner = ("loop", "i", 2, (("sleep", "s", ("add", ("mul", "n", 3), ("mul", "y", 5))),))
        version = version_with(("loop", "o", 2, (("ask", "a", "y", "price", (1,)), inner)), ("return", "n"))
        code, rows = after(version, "run", "hoist")
        self.assertEqual(broken("hoist", version, "run", after(version, "run"), (code, rows)), [])
        where = {operation: number for number, row in enumerate(code[3]) for _, operation in row[1] if operation[0] == "mul"}
        self.assertEqual(len(where), 2)
        self.assertIsNone(judge(version, "run", code, rows))

    def test_hoist_where_blocks_are_shared_with_the_first_round(self):
        version = version_with(("loop", "k", 3, (("loop", "i", 2, (("sleep", "s", ("mul", "n", 3)),)),)), ("return", "n"))
        code, rows = after(version, "run", ("unroll", "k"), "join", "hoist")
        self.assertIsNone(judge(version, "run", code, rows))

    def test_too_many_slots_leave_the_code_as_it_was(self):
        sums = [("add", ("mul", "n", at), ("add", ("mul", "n", at + 50), ("mul", "n", at + 100))) for at in range(2, 38)]
        sends = [("send", "", ("self",), "num", one) for one in sums]
        bodies = tuple(("if", "ok", tuple(sends[at:at + 12]), ()) for at in range(0, 36, 12))
        version = version_with(("loop", "k", 2, bodies))
        before = after(version, "run")
        self.assertEqual(after(version, "run", "hoist"), before)
        self.assertIsNone(judge(version, "run", *before))

    def test_join(self):
        version = version_with(("if", "ok", (("return", 1),), (("return", 1),)), ("sleep", "s", 1))
        code, rows = after(version, "run", "join")
        self.assertEqual((places_with(code, "sleep"), sorted(rows)), ([], [0]))
        self.assertEqual([end for _, _, end in code[3]].count(("return", value(1))), 1)
        self.assertNotIn("branch", [end[0] for _, _, end in code[3]])

    def test_true_is_not_one(self):
        version = version_with(
            ("if", ("less", "n", 0), (("set", "x", ("add", 0, 1)),), (("set", "no", ("not", False)),)), ("send", "m", "t", "num", "x"),
            ("return", "n"))
        code, _ = after(version, "run", "constants", "join", "equals")
        kinds = [type(operation[1]) for _, operation in self.steps(code) if operation in (value(1), value(True))]
        self.assertEqual(set(kinds), {int, bool})


class InlineTest(unittest.TestCase):
    ONE = function("one", ("loop", "k", 2, (("sleep", "s", "n"),)), ("if", ("less", "n", 0), (("raise", "dear"),), ()), ("return", ("add", "n", 1)))

    def check(self, version, name, code, rows):
        self.assertIsNone(judge(version, name, code, rows))
        codes, maps = compiled_all(version)
        start = (name, (3,), 0)
        told = list(stories(version, start, Random(1), 3))
        self.assertIsNone(first_wrong(version, {**codes, name: code}, {**maps, name: rows}, start, told))

    def test_a_call(self):
        version = version_of(self.ONE, function("run", ("call", "c", "x", "one", ("n",)), ("return", "x")))
        code, rows = after(version, "run", ("inline", "c"))
        self.assertEqual(places_with(code, "call"), [])
        self.assertEqual([tuple(label for label, _ in place) for place in places_with(code, "sleep")], [("c", "k", "s")])
        at = [number for number, row in enumerate(code[3]) if row[2][0] == "sleep"][0]
        self.assertIn(("round", ("c",), "k"), rows[at][0])
        self.assertIn(("var", ("c",), "n"), rows[at][1])
        self.assertIn(("var", (), "n"), rows[at][1])
        self.assertNotIn((("c", 0),), [place for place, _, _ in code[3]])
        self.check(version, "run", code, rows)
        self.assertEqual(after(version, "run", ("inline", "c"), ("inline", "c")), (code, rows))
        self.assertEqual(after(version, "run", ("inline", "d")), after(version, "run"))

    def test_errors(self):
        body = (("try", "t", (("call", "c", "x", "one", ("n",)),), (("dear", (("return", 77),)),)), ("return", "x"))
        version = version_of(self.ONE, function("run", *body))
        self.check(version, "run", *after(version, "run", ("inline", "c")))
        version = version_of(self.ONE, function("run", ("call", "c", "x", "one", (-5,)), ("return", "x")))
        self.check(version, "run", *after(version, "run", ("inline", "c"), "constants", "dead", "join"))

    def test_calls_within_what_comes_in(self):
        two = function("two", ("call", "c", "x", "one", ("n",)), ("return", "x"))
        body = (("loop", "l", 2, (("try", "t", (("call", "c", "x", "two", ("n",)),), (("dear", ()),)),)), ("return", "x"))
        version = version_of(self.ONE, two, function("run", *body))
        code, rows = after(version, "run", ("inline", "c"))
        self.assertEqual([[label for label, _ in place] for place in places_with(code, "call")], [["l", "t", "c", "c"]])
        self.check(version, "run", code, rows)
        code, rows = after(version, "run", ("inline", "c"), ("inline", "c"))
        self.assertEqual(places_with(code, "call"), [])
        self.assertIn(("var", ("c", "c"), "n"), [one for row in rows.values() for one in row[1]])
        self.check(version, "run", code, rows)

    def test_a_function_with_a_both_stays(self):
        one = function("one", ("both", "b", (("sleep", "s", 1),), ()))
        version = version_of(one, function("run", ("call", "c", "x", "one", ("n",))))
        self.assertEqual(after(version, "run", ("inline", "c")), after(version, "run"))

    def test_the_codes_that_are_passed_come_in(self):
        version = version_of(self.ONE, function("run", ("call", "c", "x", "one", ("n",)), ("return", "x")))
        codes, maps = compiled_all(version)
        codes["one"], maps["one"] = apply_pass(("unroll", "k"), version, codes, maps, "one")
        code, rows = apply_pass(("inline", "c"), version, codes, maps, "run")
        self.assertIn((("c", 0), ("k", 0), ("s", 0)), [place for place, _, _ in code[3]])
        self.check(version, "run", code, rows)
        del codes["one"]
        self.assertEqual(apply_pass(("inline", "c"), version, codes, maps, "run"), (codes["run"], maps["run"]))

    def test_slots_that_are_not_needed_are_left_out_at_the_limit(self):
        names = ["f" + letter for letter in "abcdefghijkl"]
        low = [function(name, ("ask", "a", "x", "price", ("n",)), ("return", "x"), inner=tuple(("v" + one, "int") for one in "abcdefg") + (("x", "int"),))
               for name in names]
        calls = [("call", name[1] * 2, "x", name, ("x",)) for name in names]
        version = version_of(*low, function("run", *calls[:11], ("return", "x")))
        codes, maps = compiled_all(version)
        for _, label, _, _, _ in calls[:11]:
            for one in (("inline", label), "dead"):
                codes["run"], maps["run"] = apply_pass(one, version, codes, maps, "run")
        self.assertEqual((places_with(codes["run"], "call"), len(places_with(codes["run"], "ask"))), ([], 11))
        self.check(version, "run", codes["run"], maps["run"])

    def test_calls_that_are_inlined_together_have_the_same_slots(self):
        body = (("loop", "l", 2, (("call", "c", "x", "one", ("n",)), ("send", "m", "t", "num", "x"))), ("return", "x"))
        version = version_of(self.ONE, function("run", *body))
        code, rows = after(version, "run", ("unroll", "l"), ("inline", "c"))
        self.assertEqual(len(places_with(code, "sleep")), 2)
        self.assertEqual(code[2], after(version, "run")[0][2] + after(version, "one")[0][2])
        self.check(version, "run", code, rows)

    def test_limits(self):
        functions = [function("fa", ("sleep", "s", "n"))]
        for letter, before in zip("bcdefghijklmnopqrstuv", "abcdefghijklmnopqrstu"):
            functions.append(function("f" + letter, ("call", "c", "x", "f" + before, ("n",)), ("return", "x")))
        version = version_of(*functions)
        codes, maps = compiled_all(version)
        for _ in range(22):
            before = (codes["fv"], maps["fv"])
            codes["fv"], maps["fv"] = apply_pass(("inline", "c"), version, codes, maps, "fv")
            self.assertTrue(is_code(codes["fv"]) and is_map(codes["fv"], maps["fv"]))
        self.assertEqual((codes["fv"], maps["fv"]), before)
        self.assertEqual(len(places_with(codes["fv"], "call")), 1)
        self.assertIsNone(judge(version, "fv", codes["fv"], maps["fv"]))


class UnrollTest(unittest.TestCase):
    def check(self, version, code, rows):
        self.assertIsNone(judge(version, "run", code, rows))
        start = ("run", (3,), 0)
        told = list(stories(version, start, Random(1), 3))
        self.assertIsNone(first_wrong(version, {"run": code}, {"run": rows}, start, told))

    def test_the_first_round(self):
        code, rows = after(LOOPING, "run", ("unroll", "k"))
        self.assertEqual(sorted(str(place[0][1]) for place in places_with(code, "sleep")), ["('slot', 7)", "0"])
        self.assertIn((("k", 0),), [place for place, _, _ in code[3]])
        self.check(LOOPING, code, rows)
        self.assertEqual(after(LOOPING, "run", ("unroll", "k"), ("unroll", "k")), (code, rows))
        self.assertEqual(after(LOOPING, "run", ("unroll", "z")), after(LOOPING, "run"))
        self.check(LOOPING, *after(LOOPING, "run", ("unroll", "k"), "constants", "copies", "dead", "hoist", "dead", "join"))

    def test_bodies_of_boths(self):
        inner = ("both", "i", (("sleep", "s", "n"), ("set", "x", 1)), (("loop", "l", 2, (("sleep", "z", "n"),)),))
        version = version_with(("loop", "k", 2, (("both", "b", (inner,), (("sleep", "w", 1),)),)), ("return", "x"))
        code, rows = after(version, "run", ("unroll", "k"))
        waits = [place for place, _, end in code[3] if end[0] in WAITING_WORDS]
        self.assertEqual(sorted(place[1:] for place in waits if place[0] == ("k", 0)),
                         sorted(place[1:] for place in waits if place[0] != ("k", 0)))
        self.assertIn((("k", 0), ("b", 2)), [place for place, _, _ in code[3]])
        self.check(version, code, rows)

    def test_the_loop_with_the_least_number(self):
        version = version_with(("loop", "o", 2, (("loop", "i", 2, (("sleep", "s", 1),)),)), ("return", "x"))
        code, rows = after(version, "run", ("unroll", "o"), ("unroll", "i"))
        heads = [number for number, (place, _, end) in enumerate(after(version, "run", ("unroll", "o"))[0][3]) if place and place[-1][0] == "i"]
        first = after(version, "run", ("unroll", "o"))[0][3][min(heads)][0]
        self.assertIn((first[0], ("i", 0)), [place for place, _, _ in code[3]])
        self.assertEqual(len([place for place, _, _ in code[3] if place and place[-1] == ("i", 0)]), 1)
        self.assertEqual(after(version, "run", ("unroll", "o"), ("unroll", "i"), ("unroll", "i")), (code, rows))
        told = list(stories(version, ("run", (3,), 0), Random(1), 2))
        self.assertIsNone(first_wrong(version, {"run": code}, {"run": rows}, ("run", (3,), 0), told))
        self.check(version, *after(version, "run", ("unroll", "i"), ("unroll", "o")))

    def test_not_in_inlined_functions(self):
        one = function("one", ("loop", "k", 2, (("sleep", "s", "n"),)))
        version = version_of(one, function("run", ("call", "c", "x", "one", ("n",))))
        self.assertEqual(after(version, "run", ("inline", "c"), ("unroll", "k")), after(version, "run", ("inline", "c")))

    def test_statements_that_leave_the_loop(self):
        version = version_with(("loop", "k", 3, (("if", "ok", (("sleep", "s", 1), ("break",)), ()), ("sleep", "z", 2))), ("return", "n"))
        code, rows = after(version, "run", ("unroll", "k"))
        self.assertFalse(is_plain(version, "run", after(version, "run")[0], "k"))
        told = list(stories(version, ("run", (3,), 0), Random(1), 3))
        self.assertIsNone(first_wrong(version, {"run": code}, {"run": rows}, ("run", (3,), 0), told))


class LargeTest(unittest.TestCase):
    def test_integers_that_would_become_too_long(self):
        squares = tuple(("set", "x", ("mul", "x", "x")) for _ in range(11))
        bodies = tuple(("if", ("less", "n", number), squares, ()) for number in range(3))
        version = version_with(("set", "x", 10 ** 40), *bodies, ("sleep", "s", 1), ("return", "x"))
        code, rows = after(version, "run", "constants", "copies", "dead", "join")
        self.assertTrue(is_code(code) and is_map(code, rows))
        found = judge(version, "run", code, rows)
        self.assertTrue(found is None or found[0] == "many")

    def test_hand_made_codes_are_not_looked_at(self):
        version = VERSION
        rows = {0: ((("var", (), "n"), None), {}), 1: ((None, None), {})}
        code, _ = apply_pass("join", version, {"buy": DOUBLE}, {"buy": rows}, "buy")
        self.assertEqual(code, DOUBLE)
        self.assertEqual(Run(version, "ann", 0, ("buy", (1,), 0), {}).state, "closed")
