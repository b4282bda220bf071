"""heldover.compiler: codes and maps, and what executions of them do."""

import unittest
from random import Random

from heldover.codes import WAITING_WORDS, is_code, is_codes, points
from heldover.compiler import compiled, compiled_all
from heldover.errors import UnknownName
from heldover.runs import Run
from heldover.stories import is_datum
from heldover.syntax import statements
from heldover.versions import Version
from tests.anything import ODD
from tests.programs import random_entry, random_start, random_version
from tests.samples import function, module, version_of, version_with
from tests.test_runs import VERSION
from tests.walker import Walk, differences_with_missed, walk

PAIRS = ("add", "sub", "mul", "div", "mod", "less", "same", "and", "or")


def term_depth(term, unknowns):
    """How many operations stand within each other in a term over these unknowns, operands left out."""
    if term[0] in unknowns:
        return 0
    if term[0] == "value":
        assert len(term) == 2 and is_datum(term[1])
        return 0
    first = 2 if term[0] in ("tag", "is", "part") else 1
    assert term[0] in (*PAIRS, "not", "tag", "is", "part", "self"), term
    return 1 + max([term_depth(one, unknowns) for one in term[first:]], default=0)


def targets(end):
    """The blocks that an end names."""
    word = end[0]
    if word in ("return", "raise", "become", "done"):
        return []
    if word == "branch":
        return list(end[2:])
    if word == "call":
        return [end[4], *[block for _, block in end[5]]]
    if word == "both":
        return [end[1], end[2], end[5], *[block for _, block in end[6]]]
    if word == "mark":
        return list(end[1:])
    return [end[-1]]


class FormTest(unittest.TestCase):
    def check(self, version):
        codes, maps = compiled_all(version)
        self.assertTrue(is_codes(codes))
        self.assertEqual((list(codes), list(maps)), (version.names(), version.names()))
        for name in version.names():
            self.assertEqual(compiled(version, name), (codes[name], maps[name]))
            self.check_code(version, name, codes[name])
            self.check_map(version, name, codes[name], maps[name])

    def check_code(self, version, name, code):
        self.assertTrue(is_code(code))
        self.assertEqual(code[:2], (name, len(version.signature(name)[0])))
        places = [code[3][block][0] for block in points(code)]
        flat = [tuple((label, number if isinstance(number, int) else "slot") for label, number in place) for place in places]
        self.assertEqual(len(flat), len(set(flat)))
        self.check_cycles(code)
        body = version.function(name)[4]
        for words in (("call",), ("ask",), ("send",), ("receive",), ("sleep",), ("start",), ("both",)):
            text = [(one[1], one[3] if one[0] != "both" and len(one) > 3 else None) for _, one in statements(body) if one[0] in words]
            made = [block for block in code[3] if block[2][0] in words]
            self.assertEqual(sorted(one for one, _ in text), sorted(place[-1][0] for place, _, _ in made))
        marks = [one[1] for _, one in statements(body) if one[0] == "since"]
        self.assertEqual(sorted(marks), sorted(place[-1][0] for place, _, end in code[3] if end[0] == "mark"))

    def check_cycles(self, code):
        """Without its points the graph of blocks has no cycle."""
        left = {block for block, row in enumerate(code[3]) if row[0] is None}
        while left:
            free = {block for block in left if not set(targets(code[3][block][2])) & left}
            self.assertTrue(free, "a cycle without a point")
            left -= free

    def check_map(self, version, name, code, code_map):
        _, params, inner, _, _ = version.function(name)
        variables = {("var", (), variable) for variable, _ in (*params, *inner)}
        self.assertEqual(sorted(code_map), points(code))
        for block, (meanings, recipes) in code_map.items():
            self.assertIsInstance(meanings, tuple)
            self.assertEqual(len(meanings), code[2])
            self.assertEqual(set(recipes), variables)
            for term in meanings:
                self.assertTrue(term is None or term_depth(term, ("var", "round")) <= 10)
            for term in recipes.values():
                self.assertLessEqual(term_depth(term, ("slot",)), 10)
        meanings, recipes = code_map[0]
        count = len(params)
        self.assertEqual(meanings[:count], tuple(("var", (), variable) for variable, _ in params))
        self.assertEqual(set(meanings[count:]), {None} if meanings[count:] else set())
        kinds = version.kinds()
        for variable, kind in inner:
            self.assertEqual(recipes["var", (), variable], ("value", kinds.zero(kind)))
        for number, (variable, _) in enumerate(params):
            self.assertEqual(recipes["var", (), variable], ("slot", number))

    def test_the_example(self):
        self.check(VERSION)
        codes, maps = compiled_all(VERSION)
        self.assertEqual(set(codes), {"buy"})
        places = [block[0] for block in codes["buy"][3] if block[2][0] in WAITING_WORDS]
        self.assertEqual(sorted(places), sorted([(("a", 0),), (("b", 0),), (("b", 0), ("w", 0)), (("b", 1), ("r", 0))]))

    def test_versions_of_all_sorts(self):
        for seed in range(80):
            self.check(random_version(seed))

    def test_empty_functions(self):
        self.check(Version([("m", (), (), (), (), (("f", (), (), "int", ()),))]))
        self.assertEqual(compiled_all(Version([("m", (), (), (), (), ())])), ({}, {}))

    def test_unknown_names(self):
        for value in (*ODD, "nope", "price"):
            with self.assertRaises(UnknownName) as caught:
                compiled(VERSION, value)
            self.assertIs(caught.exception.name, value)
        self.assertEqual(compiled(version=VERSION, function="buy"), compiled(VERSION, "buy"))

    def test_results_are_new(self):
        codes, maps = compiled_all(VERSION)
        before = compiled_all(VERSION)
        maps["buy"][0][1].clear()
        maps["buy"].pop(1)
        codes.clear()
        self.assertEqual(compiled_all(VERSION), before)
        rows = [row[1] for row in before[1]["buy"].values()]
        for number, one in enumerate(rows):
            self.assertTrue(all(one is not other for other in rows[number + 1:]))

    def test_calls_that_nothing_comes_to(self):
        one = function("one")
        two = function("two", ("if", "ok", (("return", 1),), (("return", 2),)), ("call", "c", "x", "one", (1,)))
        self.check(version_of(one, two))

    def test_large_functions(self):
        wide = ("add", "x", "y")
        for _ in range(3):
            wide = ("add", wide, wide)
        statement = ("ask", "", "x", "many", (wide,) * 5)
        doors = (("many", ("int",) * 5, "int"),)
        variables = tuple(("v" + letter, "int") for letter in "abcdefgh")
        body = tuple(("set", "x", wide) for _ in range(12))
        loops = statement
        for _ in range(4):
            loops = ("loop", "", 2, (loops,))
        one = ("one", (("x", "int"), ("y", "int")), variables, "int", body)
        two = ("two", (("x", "int"), ("y", "int")), variables, "int", (loops, statement, ("become", "two", (wide, wide))))
        self.check(Version([module(one, two, doors=doors, keys=())]))

    def test_more_than_four_hundred_steps(self):
        kinds = [("ka", (("A", ("int", "int", "int")),))]
        for letter, before in zip("bcd", "abc"):
            kinds.append(("k" + letter, ((letter.upper(), ("k" + before,) * 3),)))
        value = ("tag", "A", 1, "n", 3)
        for letter in "BCD":
            value = ("tag", letter, value, value, value)
        doors = (("many", ("kd",) * 5, "int"),)
        one = ("one", (("n", "int"),), (("v", "kd"), ("x", "int")), "kd",
               (*[("set", "v", value)] * 11, ("ask", "a", "x", "many", (value,) * 5)))
        version = Version([("m", (), tuple(kinds), doors, (), (one,))])
        self.check(version)
        codes, _ = compiled_all(version)
        done = walk(version, codes, "ann", 0, ("one", (4,), 0), {})
        self.assertEqual(done.waits, Run(version, "ann", 0, ("one", (4,), 0), {}).waits())


class Watched(Walk):
    """A walk that checks the map at each point to which it comes."""

    def at_point(self, code, block, slots, prefix):
        meanings, recipes = self.maps[code[0]][block]
        place = code[3][block][0]
        unknowns = {}
        for variable, recipe in recipes.items():
            unknowns[variable] = self.term(recipe, {("slot", number): slots[number] for number in range(len(slots))})
        for label, number in place:
            if isinstance(number, tuple):
                unknowns["round", (), label] = slots[number[1]]
        for number, meaning in enumerate(meanings):
            if meaning is not None:
                assert slots[number] == self.term(meaning, unknowns), (code[0], block, number)
        if code[3][block][2][0] in WAITING_WORDS and code[3][block][2][0] not in ("call", "both"):
            index = self.index(prefix, place, slots)
            values = {name[2]: value for name, value in unknowns.items() if name[0] == "var"}
            assert self.run.frames(index)[-1] == (code[0], index[-1][0], values), index
            self.seen += 1

    def term(self, term, unknowns):
        if term[0] in ("var", "round", "slot"):
            return unknowns[term]
        if term[0] in ("value", "self"):
            return self.operation(term, [])
        first = 2 if term[0] in ("tag", "is", "part") else 1
        return self.operation((*term[:first], *[("value", self.term(one, unknowns)) for one in term[first:]]), [])


class MapsTest(unittest.TestCase):
    def watch(self, version, codes, maps, start, story):
        run = Run(version, "ann", 0, start, story)
        walk_class = type("Here", (Watched,), {"run": run, "maps": maps, "seen": 0})
        passed = run.passed()
        done = walk_class(version, codes, "ann", 0, start, story, lambda index: index in passed)
        self.assertEqual((done.waits, done.end), (run.waits(), run.end()))
        self.assertEqual(differences_with_missed(done, story), run.differences())
        return done

    def test_maps_tell_what_plain_runs_have(self):
        seen = 0
        for seed in range(300, 380):
            version = random_version(seed)
            codes, maps = compiled_all(version)
            start, chance, story = random_start(version, seed), Random(seed), {}
            for moment in range(20):
                done = self.watch(version, codes, maps, start, story)
                seen += done.seen
                if not done.waits:
                    break
                index = chance.choice(sorted(done.waits))
                story[index] = random_entry(version, chance, done.waits[index], index, moment)
        self.assertGreater(seen, 1000)


class ExecutionTest(unittest.TestCase):
    """By hand: what [38] promises of executions."""

    def same(self, version, start, story):
        codes, _ = compiled_all(version)
        run = Run(version, "ann", 0, start, story)
        done = walk(version, codes, "ann", 0, start, story)
        self.assertEqual((done.waits, done.end, sorted(done.came), sorted(done.passed)),
                         (run.waits(), run.end(), run.come_to(), run.passed()))
        self.assertEqual(differences_with_missed(done, story), run.differences())
        return done

    def test_calls_are_not_inlined(self):
        one = function("one", ("return", ("add", "n", 1)))
        two = function("two", ("loop", "k", 3, (("call", "c", "x", "one", ("x",)),)), ("return", "x"))
        done = self.same(version_of(one, two), ("two", (0,), 0), {})
        self.assertEqual(done.calls_done, [(0, ("k", number), ("c", 0)) for number in range(3)])
        self.assertEqual(done.end, ("result", 3))

    def test_many_rounds_of_nothing(self):
        body = ()
        for label in "abcd":
            body = (("loop", label, 9, body),)
        for more in ((), (("sleep", "s", 1),)):
            version = version_with(*body, *[("loop", "", 9, ())] * 8, *more)
            self.same(version, ("run", (0,), 0), {})

    def test_rounds_that_only_count(self):
        body = (("set", "x", ("add", "x", 1)),)
        for label in "abc":
            body = (("loop", label, 9, body),)
        version = version_with(*body, ("return", "x"))
        done = self.same(version, ("run", (0,), 0), {})
        self.assertEqual(done.end, ("result", 729))

    def test_errors_of_callees_in_boths(self):
        fail = function("fail", ("sleep", "s", "n"), ("raise", "dear"))
        both = ("both", "b", (("set", "x", 5), ("call", "c", "y", "fail", (1,))), (("set", "ok", True), ("sleep", "p", 2)))
        run = function("run", ("loop", "k", 2, (("try", "t", (both,), (("dear", (("sleep", "h", "x"),)),)),)), ("return", "x"))
        version = version_of(fail, run)
        story = {}
        for index, question in (
            ((0, ("k", 0), ("t", 0), ("b", 0), ("c", 0), ("s", 0)), ("sleep", 1)),
            ((0, ("k", 0), ("t", 0), ("b", 1), ("p", 0)), ("sleep", 2)),
            ((0, ("k", 0), ("t", 1), ("h", 0)), ("sleep", 5)),
            ((0, ("k", 1), ("t", 0), ("b", 0), ("c", 0), ("s", 0)), ("sleep", 1)),
            ((0, ("k", 1), ("t", 0), ("b", 1), ("p", 0)), ("sleep", 2)),
            ((0, ("k", 1), ("t", 1), ("h", 0)), ("sleep", 5)),
        ):
            done = self.same(version, ("run", (0,), 0), story)
            self.assertIn(index, done.waits)
            story[index] = (question, True, 0)
        self.assertEqual(self.same(version, ("run", (0,), 0), story).end, ("result", 5))

    def test_twenty_four_functions_that_call_each_other(self):
        functions = [function("fa", ("sleep", "s", "n"))]
        for letter, before in zip("bcdefghijklmnopqrstuvwx", "abcdefghijklmnopqrstuvw"):
            call = ("call", "c", "x", "f" + before, (("add", "n", 1),))
            for word in ("if", "loop", "try", "since"):
                call = {"if": ("if", True, (call,), ()), "loop": ("loop", "l", 2, (call,)),
                        "try": ("try", "t", (call,), (("dear", ()),)), "since": ("since", "m", (), (call,))}[word]
            functions.append(function("f" + letter, call))
        version = version_of(*functions)
        start = ("fx", (0,), 0)
        done = self.same(version, start, {})
        self.assertEqual(list(done.waits.values()), [("mark",)])
        index = (0, *[("t", 0), ("l", 0), ("c", 0)] * 23, ("s", 0))
        self.same(version, start, {index: (("sleep", 23), True, 0)})
