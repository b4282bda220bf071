"""heldover.ways and heldover.liveness."""

import unittest

from heldover.compiler import compiled_all
from heldover.errors import InvalidCode, InvalidMap, NoPoint, UnknownName
from heldover.liveness import live_slots, needed_variables
from heldover.ways import gives, reads
from tests.anything import ODD
from tests.samples import function, version_of, version_with
from tests.test_execution import slot, value
from tests.test_positions import at
from tests.test_runs import VERSION


class WaysTest(unittest.TestCase):
    def test_the_examples(self):
        end = ("ask", 1, "price", (slot(0), value(3)), 2)
        self.assertEqual([reads(end), gives(end)], [[0], [1]])
        self.assertEqual(needed_variables(VERSION, "buy", (("b", 0),)), [("var", (), "n"), ("var", (), "p")])

    def test_every_end(self):
        for end, read, given in (
            (("jump", 1), [], []), (("branch", slot(3), 1, 2), [3], []), (("branch", value(True), 1, 2), [], []),
            (("return", slot(2)), [2], []), (("return", value(2)), [], []), (("raise", "dear"), [], []),
            (("become", "one", (slot(3), value(1), slot(1), slot(3))), [1, 3], []), (("done",), [], []),
            (("call", 4, "one", (slot(2), slot(1)), 1, (("dear", 2),)), [1, 2], [4]), (("call", None, "one", (), 1, ()), [], []),
            (("ask", 1, "price", (slot(5),), 2), [5], [1]), (("ask", None, "price", (), 2), [], []),
            (("send", slot(7), "paid", slot(3), 2), [3, 7], []), (("send", value(""), "paid", slot(3), 2), [3], []),
            (("receive", 6, "paid", 2), [], [6]), (("receive", None, "paid", 2), [], []), (("sleep", slot(1), 2), [1], []),
            (("start", 2, "one", (slot(2),), 2), [2], [2]), (("mark", 1, 2), [], []), (("both", 1, 2, (5, 3), (4,), 3, ()), [], [3, 4, 5]),
        ):
            self.assertEqual((reads(end), gives(end)), (read, given), end)
            self.assertEqual((reads(end=end), gives(end=end)), (read, given))


def live(*blocks, recipes=(), slots=6):
    """What is live in a code of these blocks; recipes has those of some points."""
    code = ("run", 1, slots, blocks)
    rows = {}
    for number, (place, _, _) in enumerate(blocks):
        if place is not None:
            known = dict(recipes).get(number, ())
            rows[number] = ((None,) * slots, {("var", (), "v" + "abc"[at]): term for at, term in enumerate(known)})
    return live_slots(code, rows)


class LiveTest(unittest.TestCase):
    def test_steps_and_branches(self):
        found = live(
            ((), ((1, ("add", slot(0), slot(2))), (2, value(1))), ("branch", slot(1), 1, 2)),
            (None, (), ("return", slot(3))), (None, ((4, slot(2)),), ("return", slot(4))))
        self.assertEqual(found, {0: [0, 2, 3], 1: [3], 2: [2]})

    def test_places_and_recipes(self):
        found = live(
            ((), (), ("jump", 1)), ((("k", slot(4)), ("s", 0)), (), ("sleep", slot(1), 2)), (None, (), ("return", value(1))),
            recipes={1: (("add", slot(2), slot(3)), value(1), None), 0: (slot(5),)})
        self.assertEqual(found, {0: [1, 2, 3, 4, 5], 1: [1, 2, 3, 4], 2: []})

    def test_answers(self):
        for end in (("ask", 1, "price", (slot(0),), 2), ("receive", 1, "paid", 2), ("start", 1, "one", (slot(0),), 2)):
            found = live(((), (), ("jump", 1)), ((("s", 0),), (), end), (None, (), ("return", ("slot", 1))))
            self.assertEqual(found[1], reads(end))
        found = live(((), (), ("jump", 1)), ((("s", 0),), (), ("ask", None, "price", (), 2)), (None, (), ("return", slot(1))))
        self.assertEqual(found[1], [1])

    def test_calls_and_their_errors(self):
        found = live(
            ((), (), ("jump", 1)), ((("c", 0),), (), ("call", 1, "one", (slot(0),), 2, (("dear", 3), ("late", 4)))),
            (None, (), ("return", slot(1))), (None, (), ("return", slot(2))), (None, (), ("return", slot(1))))
        self.assertEqual(found[1], [0, 1, 2])

    def both(self, one, other, behind=("return", ("slot", 4)), errors=(), taken=((1,), (2,))):
        return live(
            ((), (), ("jump", 1)), ((("b", 0),), (), ("both", 2, 3, *taken, 4, errors)), (None, *one), (None, *other),
            ((("b", 2),), ((4, ("add", slot(1), slot(5))),), behind), ((("t", 1),), (), ("return", slot(2))))

    def test_boths(self):
        found = self.both(((), ("done",)), ((), ("done",)))
        self.assertEqual((found[1], found[2], found[3], found[4]), ([1, 2, 5], [1], [2], [1, 5]))
        found = self.both((((1, slot(3)),), ("done",)), (((2, value(1)),), ("done",)))
        self.assertEqual((found[1], found[2], found[3]), ([3, 5], [3], []))
        found = self.both((((1, slot(3)),), ("raise", "dear")), ((), ("raise", "dear")), errors=(("dear", 5),))
        self.assertEqual((found[1], found[2], found[3]), ([2, 3, 5], [3], [2]))

    def test_calls_and_boths_in_bodies_read_what_is_taken_over(self):
        found = live(
            ((), (), ("jump", 1)), ((("b", 0),), (), ("both", 2, 4, (1,), (), 5, ())),
            ((("b", 0), ("c", 0)), (), ("call", 1, "one", (), 3, ())), (None, (), ("done",)), (None, (), ("done",)),
            ((("b", 2),), (), ("return", slot(1))))
        self.assertEqual((found[1], found[2], found[3], found[4]), ([1], [1], [1], []))
        found = live(
            ((), (), ("jump", 1)), ((("b", 0),), (), ("both", 2, 3, (1,), (), 5, ())),
            ((("b", 0), ("i", 0)), (), ("both", 4, 3, (1,), (), 6, ())), (None, (), ("done",)), (None, ((1, value(3)),), ("done",)),
            ((("b", 2),), (), ("return", slot(1))), ((("b", 0), ("i", 2)), (), ("jump", 3)))
        self.assertEqual((found[2], found[4]), ([1], []))

    def test_loops(self):
        found = live(
            ((), ((1, value(0)),), ("jump", 1)), ((("k", slot(1)),), ((2, ("less", slot(1), slot(3))),), ("branch", slot(2), 2, 3)),
            (None, ((1, ("add", slot(1), slot(4))),), ("jump", 1)), (None, (), ("return", value(1))))
        self.assertEqual(found, {0: [3, 4], 1: [1, 3, 4], 2: [1, 3, 4], 3: []})

    def test_errors(self):
        codes, maps = compiled_all(VERSION)
        for odd in ODD:
            for error, arguments in ((InvalidCode, (odd, odd)), (InvalidMap, (codes["buy"], odd))):
                with self.assertRaises(error) as caught:
                    live_slots(*arguments)
                self.assertIs(caught.exception.value, odd)
        found = live_slots(code=codes["buy"], code_map=maps["buy"])
        self.assertEqual(sorted(found), list(range(len(codes["buy"][3]))))
        found[0].append(1)
        self.assertNotEqual(found, live_slots(codes["buy"], maps["buy"]))


def needed(version, *parts, name="run"):
    """The names of the variables that are needed at a place, with the paths of inlined calls before them."""
    found = needed_variables(version, name, at(*parts))
    return [" ".join([*path, variable]) for _, path, variable in found]


class NeededTest(unittest.TestCase):
    def test_statements(self):
        version = version_with(
            ("ask", "a", "x", "price", ("n",)), ("send", "m", "t", "num", ("add", "x", "y")), ("receive", "r", "y", "num"),
            ("sleep", "s", "y"), ("start", "u", "t", "run", ("y",)), ("if", "ok", (("return", "x"),), (("become", "run", ("n",)),)))
        for label, wanted in (("a", "n ok t y"), ("m", "n ok t x y"), ("r", "n ok x"), ("s", "n ok x y"), ("u", "n ok x y")):
            self.assertEqual(needed(version, label), wanted.split(), label)
        self.assertEqual(needed(version), ["n", "ok", "t", "y"])

    def test_set_before_it_is_read(self):
        version = version_with(("sleep", "s", 1), ("set", "x", "y"), ("set", "y", 2), ("sleep", "z", ("add", "x", "y")))
        self.assertEqual((needed(version, "s"), needed(version, "z")), (["y"], ["x", "y"]))

    def test_matches(self):
        cases = (("Red", (), ()), ("Mix", ("x", "t"), (("sleep", "s", "x"), ("send", "m", "t", "num", "y"))))
        version = version_with(("sleep", "p", 1), ("match", "c", cases), ("sleep", "z", "x"))
        self.assertEqual((needed(version, "p"), needed(version, "s")), (["c", "x", "y"], ["t", "x", "y"]))

    def test_loops(self):
        version = version_with(("loop", "k", 2, (("sleep", "s", "x"), ("set", "x", "y"), ("if", "ok", (("break",),), ()))), ("return", "n"))
        for parts in ((), ("k",), ("k", "s")):
            self.assertEqual(needed(version, *parts), ["n", "ok", "x", "y"])
        version = version_with(("loop", "k", 2, (("set", "x", 1), ("sleep", "s", "x"))), ("return", "x"))
        self.assertEqual((needed(version, "k"), needed(version, "k", "s")), (["x"], ["x"]))

    def test_handlers_and_errors_of_calls(self):
        one = function("one", ("sleep", "s", "n"), ("if", "ok", (("raise", "dear"),), ()), ("return", "x"))
        handlers = (("dear", (("sleep", "h", ("add", "x", "y")),)), ("late", (("return", "n"),)))
        version = version_of(one, function("run", ("try", "t", (("call", "c", "x", "one", ("n",)), ("return", "x")), handlers)))
        self.assertEqual(needed(version, "t", "c"), ["n", "x", "y"])
        self.assertEqual((needed(version, ("t", 1)), needed(version, ("t", 2))), (["x", "y"], ["n"]))
        self.assertEqual(needed(version, "t", "c", "s"), ["x", "y", "c n", "c ok", "c x"])

    def test_boths(self):
        one = (("sleep", "p", "n"), ("set", "x", 1), ("sleep", "q", 1))
        other = (("if", "ok", (("set", "y", 2),), ()), ("sleep", "z", 1))
        version = version_with(("both", "b", one, other), ("send", "m", "t", "num", ("add", "x", "y")))
        self.assertEqual(needed(version, "b"), ["n", "ok", "t", "y"])
        for parts, wanted in ((("b", "p"), "n"), (("b", "q"), "x"), ((("b", 1), "z"), "y"), ((("b", 3),), "x"), ((("b", 4),), "y"),
                              ((("b", 2),), "t x y")):
            self.assertEqual(needed(version, *parts), wanted.split(), parts)

    def test_errors_in_boths(self):
        one = (("set", "x", 1), ("sleep", "p", 1), ("raise", "dear"))
        other = (("sleep", "z", 1), ("set", "y", 2))
        version = version_with(("try", "t", (("both", "b", one, other),), (("dear", (("return", ("add", "x", "y")),)),)), ("return", "n"))
        self.assertEqual(needed(version, "t", "b", "p"), ["x"])
        self.assertEqual(needed(version, "t", ("b", 3)), ["x"])
        self.assertEqual(needed(version, "t", ("b", 1), "z"), [])
        self.assertEqual(needed(version, "t", ("b", 4)), ["y"])
        self.assertEqual(needed(version, "t", "b"), ["n"])
        inner = ("both", "i", (("set", "x", 1), ("sleep", "s", 1), ("raise", "dear")), ())
        version = version_with(("try", "t", (("both", "b", (inner,), ()),), (("dear", (("return", "x"),)),)), ("return", "n"))
        self.assertEqual(needed(version, "t", "b", "i", "s"), ["x"])

    def test_inlined_calls(self):
        one = function("one", ("sleep", "s", "n"), ("return", "x"))
        two = function("two", ("call", "c", "y", "one", ("x",)), ("sleep", "z", ("add", "x", "y")))
        version = version_of(one, two)
        self.assertEqual(needed(version, "c", name="two"), ["x"])
        self.assertEqual(needed_variables(version, "two", at("c", "s")), [("var", (), "x"), ("var", ("c",), "n"), ("var", ("c",), "x")])
        self.assertEqual(needed_variables(version, function="two", place=at("z")), [("var", (), "x"), ("var", (), "y")])

    def test_errors_of_the_function(self):
        for odd in (*ODD, "nope"):
            with self.assertRaises(UnknownName) as caught:
                needed_variables(VERSION, odd, odd)
            self.assertIs(caught.exception.name, odd)
        for odd in (*ODD, (("z", 0),), [("b", 0)], (("b", 0), ("b", 0))):
            if isinstance(odd, tuple) and not odd:
                continue
            with self.assertRaises(NoPoint) as caught:
                needed_variables(VERSION, "buy", odd)
            self.assertIs(caught.exception.value, odd)
