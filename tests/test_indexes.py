"""heldover.indexes."""

import unittest

from heldover.errors import InvalidIndex
from heldover.indexes import index_text, is_index, parse_index
from tests.anything import ODD, nested

GOOD = {
    (0, ("a", 0)): "0 a.0",
    (0, ("c", 0), ("round", 2), ("a", 0)): "0 c.0 round.2 a.0",
    (10 ** 9, ("99", 9), ("1", 0)): "1000000000 99.9 1.0",
    (7, *[("k", number) for number in range(10)]): "7 k.0 k.1 k.2 k.3 k.4 k.5 k.6 k.7 k.8 k.9",
}


class IndexTest(unittest.TestCase):
    def test_good(self):
        for index, text in GOOD.items():
            self.assertIs(is_index(index), True)
            self.assertEqual(index_text(index), text)
            self.assertEqual(parse_index(text), index)

    def test_bad(self):
        for value in (
            (), (0,), (-1, ("a", 0)), (10 ** 9 + 1, ("a", 0)), (True, ("a", 0)), (False, ("a", 0)), ("0", ("a", 0)),
            (None, ("a", 0)), [0, ("a", 0)], (0, ["a", 0]), (0, ("a", -1)), (0, ("a", 10)), (0, ("a", True)), (0, ("a", False)),
            (0, ("a", "0")), (0, ("a", None)), (0, ("a",)), (0, ("a", 0, 0)), (0, ("A", 0)), (0, ("", 0)), (0, ("0", 0)),
            (0, ("01", 0)), (0, ("100", 0)), (0, ("self", 0)), (0, (1, 0)), (0, "a0"), (0, ("a", 0), ()), (0, ("a", 0), None),
            (0, "a", 0), (("a", 0),), (0, (("a", 0),)), (0, ("a", ("slot", 1))), (0, nested(1000)), (nested(1000), ("a", 0)),
        ):
            self.refused(value)

    def refused(self, value):
        self.assertIs(is_index(value), False)
        with self.assertRaises(InvalidIndex) as caught:
            index_text(value)
        self.assertIs(caught.exception.value, value)

    def test_any_value(self):
        for value in ODD:
            self.refused(value)
            with self.assertRaises(InvalidIndex) as caught:
                parse_index(value)
            self.assertIs(caught.exception.value, value)

    def test_bad_texts(self):
        for text in (
            "0", "0 ", " 0 a.0", "0 a.0 ", "0  a.0", "0 a.0\n", "\n0 a.0", "00 a.0", "01 a.0", "-1 a.0", "+1 a.0", "1_0 a.0",
            "1000000001 a.0", "9" * 10 + " a.0", "9" * 5000 + " a.0", "a.0", "a a.0", "0 a", "0 a.", "0 .0", "0 a.00", "0 a.10",
            "0 a.-1", "0 a.+1", "0 a.x", "0 a.0.0", "0 a..0", "0 A.0", "0 self.0", "0 0.0", "0 01.0", "0 100.0", "0 a,0",
            "0/a.0", "0\ta.0", "0 a.0 b", "(0, ('a', 0))", "0 a .0", "0 a. 0",
        ):
            with self.assertRaises(InvalidIndex) as caught:
                parse_index(text)
            self.assertEqual(caught.exception.value, text)

    def test_texts_are_read_back_and_nothing_else(self):
        for index, text in GOOD.items():
            for at in range(len(text)):
                for sign in (" ", ".", "0", "x", ""):
                    changed = text[:at] + sign + text[at + 1:]
                    try:
                        found = parse_index(changed)
                    except InvalidIndex:
                        continue
                    self.assertEqual(index_text(found), changed)
            self.assertEqual(index_text(index), text)

    def test_order(self):
        rows = [(0, ("a", 0)), (0, ("a", 0), ("b", 0)), (0, ("a", 1)), (0, ("b", 0)), (1, ("a", 0))]
        self.assertEqual(sorted(reversed(rows)), rows)

    def test_by_name(self):
        self.assertTrue(is_index(value=(0, ("a", 0))))
        self.assertEqual(index_text(index=(0, ("a", 0))), "0 a.0")
        self.assertEqual(parse_index(text="0 a.0"), (0, ("a", 0)))
