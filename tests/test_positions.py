"""heldover.positions: which places stand for which positions."""

import unittest

from heldover.codes import points
from heldover.compiler import compiled_all
from heldover.errors import UnknownName
from heldover.positions import position_of, variables_at
from tests.anything import ODD
from tests.programs import random_version
from tests.samples import function, version_of

INNER = function("one", ("loop", "k", 2, (("sleep", "s", "n"), ("call", "c", "x", "zero", ("n",)))), params=(("n", "int"),),
                 inner=(("x", "int"),))
ZERO = function("zero", ("try", "t", (("sleep", "z", "n"),), (("dear", (("sleep", "h", 1),)),)), params=(("n", "int"),), inner=())
BODY = (
    ("ask", "a", "x", "price", ("n",)),
    ("loop", "k", 3, (("both", "b", (("sleep", "s", 1),), (("call", "c", "y", "one", ("n",)),)), ("break",))),
    ("try", "t", (("send", "d", "t", "num", 1), ("loop", "m", 2, (("receive", "r", "y", "num"),))), (
        ("dear", (("start", "u", "t", "zero", (1,)),)), ("late", ()))),
    ("if", "ok", (("since", "v", (("sleep", "w", 1),), (("sleep", "q", 1),)),), ()),
)
VERSION = version_of(ZERO, INNER, function("run", *BODY))


def at(*parts):
    """A place; a label alone stands for (label, 0)."""
    return tuple((part, 0) if isinstance(part, str) else part for part in parts)


class PositionTest(unittest.TestCase):
    def pos(self, *parts):
        return position_of(VERSION, "run", at(*parts))

    def test_each_kind(self):
        found = [
            self.pos(), self.pos("a"), self.pos("k"), self.pos("k", "b"), self.pos("k", ("b", 2)), self.pos("k", ("b", 3)),
            self.pos("k", ("b", 4)), self.pos("k", "b", "s"), self.pos("k", ("b", 1), "c"), self.pos("t", "d"), self.pos("t", "m"),
            self.pos("t", "m", "r"), self.pos(("t", 1)), self.pos(("t", 1), "u"), self.pos(("t", 2)), self.pos("v"), self.pos("w"),
            self.pos("q"), self.pos("k", ("b", 1), "c", "k"), self.pos("k", ("b", 1), "c", "k", "s"),
            self.pos("k", ("b", 1), "c", "k", "c"), self.pos("k", ("b", 1), "c", "k", "c", "t", "z"),
            self.pos("k", ("b", 1), "c", "k", "c", ("t", 1)), self.pos("k", ("b", 1), "c", "k", "c", ("t", 1), "h"),
        ]
        self.assertTrue(all(isinstance(one, tuple) for one in found))
        self.assertEqual(len(set(found)), len(found))

    def test_any_number_or_slot_for_a_round(self):
        for number in (*range(10), ("slot", 0), ("slot", 99)):
            self.assertEqual(self.pos(("k", number)), self.pos("k"))
            self.assertEqual(self.pos(("k", number), ("b", 1), "c", ("k", number), "c", "t", "z"),
                             self.pos("k", ("b", 1), "c", "k", "c", "t", "z"))
        self.assertNotEqual(self.pos("t", "m"), self.pos("t", "m", "r"))

    def test_places_that_stand_for_none(self):
        for parts in (
            ("b",), ("z",), (("a", 1),), (("k", 0), ("b", 5)), (("k", 0), ("b", 1)), ("t",), (("t", 3),), ("t", "k"), ("t", ("d", 1)),
            ("a", "a"), ("k", "b", "c"), ("k", ("b", 1), "s"), ("k", ("b", 1), ("c", 1)), ("k", ("b", 1), "c", "s"),
            ("k", ("b", 2), "s"), (("t", 1), "d"), ("t", "u"), (("a", ("slot", 0)),), ("k", ("b", ("slot", 0))), (("v", 1),),
            ("k", ("b", 3), "s"), (("k", 10),), (("k", ("slot", 100)),), (("k", True),), ("if",), ("x",), ("k", "k"),
            ("k", "b", ("b", 3)), (("k", -1),),
        ):
            self.assertIsNone(self.pos(*parts), parts)
            self.assertIsNone(variables_at(VERSION, "run", at(*parts)))

    def test_any_value(self):
        for odd in ODD:
            if isinstance(odd, tuple) and not odd:
                continue
            self.assertIsNone(position_of(VERSION, "run", odd))
            self.assertIsNone(variables_at(version=VERSION, function="run", place=odd))
            for call in (position_of, variables_at):
                with self.assertRaises(UnknownName) as caught:
                    call(VERSION, odd, odd)
                self.assertIs(caught.exception.name, odd)
        self.assertIsNone(position_of(version=VERSION, function="run", place=[("a", 0)]))
        self.assertIsNone(position_of(VERSION, "run", (["a", 0],)))

    def test_variables(self):
        own = sorted(("var", (), name) for name in ("n", "x", "y", "ok", "no", "t", "c"))
        for parts in ((), ("a",), ("k",), ("k", "b"), ("k", ("b", 2)), ("k", ("b", 3)), ("k", ("b", 1), "c"), ("t", "m", "r"), (("t", 1),)):
            self.assertEqual(variables_at(VERSION, "run", at(*parts)), own)
        one = [("var", ("c",), "n"), ("var", ("c",), "x")]
        self.assertEqual(variables_at(VERSION, "run", at("k", ("b", 1), "c", "k", "s")), sorted(own + one))
        self.assertEqual(variables_at(VERSION, "run", at("k", ("b", 1), "c", "k", "c")), sorted(own + one))
        two = [("var", ("c", "c"), "n")]
        self.assertEqual(variables_at(VERSION, "run", at("k", ("b", 1), "c", "k", "c", ("t", 1))), sorted(own + one + two))
        self.assertEqual(variables_at(VERSION, "zero", ()), [("var", (), "n")])

    def test_places_of_codes(self):
        for seed in range(40):
            version = random_version(seed)
            codes, maps = compiled_all(version)
            for name, code in codes.items():
                places = [code[3][block][0] for block in points(code)]
                found = [position_of(version, name, place) for place in places]
                self.assertNotIn(None, found)
                self.assertEqual(len(set(found)), len(found))
                for block in points(code):
                    self.assertEqual(variables_at(version, name, code[3][block][0]), sorted(maps[name][block][1]))


if __name__ == "__main__":
    unittest.main()
