"""heldover.expressions: the form of expressions, and their values."""

import unittest

from heldover.expressions import evaluate, is_expression
from tests.anything import ODD, nested

PAIRS = ("add", "sub", "mul", "div", "mod", "less", "same", "and", "or")


def levels(count):
    """An expression of so many levels."""
    found = "n"
    for _ in range(count - 1):
        found = ("add", 1, found)
    return found


class FormTest(unittest.TestCase):
    def good(self, *values):
        for value in values:
            self.assertIs(is_expression(value), True)

    def bad(self, *values):
        for value in values:
            self.assertIs(is_expression(value), False)

    def test_without_operands(self):
        self.good(0, -5, True, False, "n", "abcdefgh", ("self",), ("tag", "Red"))
        self.bad("", "Red", "self", "true", "add", "abcdefghi", (), ("self", 1), ("tag",), ("tag", "red"), ["self"])
        self.bad(None, [], {}, set(), object(), b"n", ("n",), (1,), (("self",),), ([],), (None,))

    def test_long_integers(self):
        self.good(10 ** 250 - 1, -(10 ** 250 - 1), 10 ** 249)
        self.bad(10 ** 250, -(10 ** 250), 10 ** 5000, -(10 ** 5000))
        self.good(("add", 10 ** 250 - 1, 1))
        self.bad(("add", 10 ** 250, 1))

    def test_operands(self):
        for word in PAIRS:
            self.good((word, 1, "n"))
            self.bad((word,), (word, 1), (word, 1, 2, 3), [word, 1, 2], (word, 1, None), (word, [1], 2))
        self.good(("not", True))
        self.bad(("not",), ("not", True, False), ("neg", 1), ("Red", 1), ("is", "Red", "n"), ("part", 0, "n"))

    def test_tags_have_any_number_of_operands(self):
        for count in range(6):
            self.good(("tag", "Red", *["n"] * count))
        self.bad(("tag", "red", 1), ("tag", 1), ("tag", None, 1), ("tag", "Red", None))

    def test_levels(self):
        self.good(levels(1), levels(4), levels(5))
        self.bad(levels(6), levels(7), levels(1200))
        self.good(("not", ("not", ("not", ("not", ("self",))))), ("tag", "A", ("tag", "A", ("tag", "A", ("tag", "A", 1)))))
        self.bad(("not", ("not", ("not", ("not", ("not", ("self",)))))), ("tag", "A", levels(5)))
        self.good(("tag", "A", ("tag", "A", ("tag", "A", ("tag", "A", ("tag", "A"))))))
        self.bad(("tag", "A", ("tag", "A", ("tag", "A", ("tag", "A", ("tag", "A", ("tag", "A")))))))

    def test_any_value(self):
        for value in ODD:
            self.assertIsInstance(is_expression(value), bool)
            self.bad(("add", value, None), ("tag", "Red", [value]), ("add", nested(1200), value))

    def test_a_value_that_is_wide_in_depth(self):
        value = 1
        for _ in range(1200):
            value = ("add", value, value)
        self.bad(value)

    def test_by_name(self):
        self.assertTrue(is_expression(value=1))


class EvaluateTest(unittest.TestCase):
    def check(self, expression, expected, **values):
        found = evaluate(expression, values)
        self.assertEqual(found, expected)
        self.assertIs(isinstance(found, bool), isinstance(expected, bool))

    def test_leaves(self):
        self.check(5, 5)
        self.check(True, True)
        self.check(False, False)
        self.check("n", ("Mix", 1, ""), n=("Mix", 1, ""))
        self.assertEqual(evaluate(("self",), {}), "")
        self.assertEqual(evaluate(("self",), {}, task="ann"), "ann")
        self.assertEqual(evaluate(("tag", "Mix", "n", ("self",)), {"n": 2}, task="bob"), ("Mix", 2, "bob"))

    def test_sums(self):
        self.check(("add", 3, -5), -2)
        self.check(("sub", 3, -5), 8)
        self.check(("mul", -3, 5), -15)
        self.check(("mul", 10 ** 150, 10 ** 100), 10 ** 250)
        self.check(("sub", "n", ("add", "n", 1)), -1, n=10 ** 199)

    def test_quotients(self):
        for one in range(-7, 8):
            for other in range(-4, 5):
                quotient = evaluate(("div", one, other), {})
                rest = evaluate(("mod", one, other), {})
                if other == 0:
                    self.assertEqual((quotient, rest), (0, 0))
                else:
                    self.assertEqual(one, other * quotient + rest)
                    self.assertTrue(0 <= rest < other or other < rest <= 0)
        self.check(("div", -7, 2), -4)
        self.check(("mod", -7, 2), 1)
        self.check(("div", 7, -2), -4)
        self.check(("mod", 7, -2), -1)
        self.check(("div", 10 ** 200, 10 ** 100), 10 ** 100)

    def test_comparisons(self):
        self.check(("less", -2, 1), True)
        self.check(("less", 1, 1), False)
        self.check(("less", 2, 1), False)
        self.check(("same", 2, 2), True)
        self.check(("same", 2, -2), False)
        self.check(("same", "a", "b"), True, a=True, b=True)
        self.check(("same", "a", "b"), False, a=True, b=False)
        self.check(("same", "a", "b"), True, a="ann", b="ann")
        self.check(("same", "a", "b"), False, a="ann", b="")
        self.check(("same", "a", ("tag", "Mix", 1, ("self",))), True, a=("Mix", 1, ""))
        self.check(("same", "a", ("tag", "Mix", 2, ("self",))), False, a=("Mix", 1, ""))
        self.check(("same", "a", ("tag", "Red")), False, a=("Mix", 1, ""))

    def test_truths(self):
        for one in (True, False):
            for other in (True, False):
                self.check(("and", one, other), one and other)
                self.check(("or", one, other), one or other)
            self.check(("not", one), not one)

    def test_all_operands_are_evaluated(self):
        for word in PAIRS:
            with self.assertRaises(KeyError):
                evaluate((word, False, "x"), {})
            with self.assertRaises(KeyError):
                evaluate((word, True, "x"), {})

    def test_values_that_are_not_read(self):
        values = {"n": 2, "other": [object()], "bad": None}
        before = dict(values)
        self.assertEqual(evaluate(("mul", "n", ("add", "n", 1)), values), 6)
        self.assertEqual(values, before)

    def test_by_name(self):
        self.assertEqual(evaluate(expression="n", values={"n": 1}, task="x"), 1)
        with self.assertRaises(TypeError):
            evaluate("n", {"n": 1}, "ann")
