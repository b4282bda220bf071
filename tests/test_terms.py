"""heldover.terms: terms, their kinds, and which of them are equal."""

import time
import unittest
from itertools import combinations, product
from random import Random

from heldover.errors import InvalidTerm
from heldover.frames import term_value
from heldover.terms import Terms, is_term, unknowns
from tests.anything import ODD, nested
from tests.programs import COLOR, DOORS, PAIR, SIZE, random_version
from tests.samples import version_with

VERSION = random_version(0)
X, Y, B, C = [("var", (), name) for name in "xybc"]
COL, PR, SZ, T, U = [("var", ("k",), name) for name in ("col", "pr", "sz", "t", "u")]
R, Q = ("round", (), "r"), ("round", ("k",), "q")
KINDS = {X: "int", Y: "int", B: "bool", C: "bool", COL: "color", PR: "pair", SZ: "size", T: "task", U: "task", R: "int",
         Q: "int", ("answer",): "int", ("slot", 3): "int"}
TRUE, FALSE = ("value", True), ("value", False)


def value(datum):
    return ("value", datum)


class FormTest(unittest.TestCase):
    def test_terms(self):
        for term in (X, R, ("slot", 99), ("answer",), value(("Red",)), ("self",), ("add", X, ("answer",)), ("not", B),
                     ("tag", "Foo", X, X, X), ("is", "Foo", X), ("part", 2, X), ("var", ("c",) * 20, "x")):
            self.assertTrue(is_term(term), term)
        for odd in (*ODD, ("answer", 1), ("slot", 100), ("slot", True), ("var", ("c",) * 21, "x"), ("var", (), "X"), ("add", X),
                    ("round", (), "K"), ["add", X, X], ("add", X, [X]), ("value", 1.5), nested(1000), ("value", nested(1000)),
                    ("tag", "Foo", X, X, X, X), ("part", 3, X), ("is", "foo", X), ("self", X)):
            self.assertFalse(is_term(odd))

    def test_levels(self):
        for levels, good in ((100, True), (101, False), (1000, False)):
            term, bare = X, ("self",)
            for _ in range(levels):
                term = ("not", term)
            self.assertEqual(is_term(term), good)
            for _ in range(levels - 1):
                bare = ("not", bare)
            self.assertEqual(is_term(bare), good)

    def test_subterms(self):
        term = ("tag", "Foo", *[X] * 3)
        for _ in range(6):
            term = ("tag", "Foo", term, term, term)
        self.assertTrue(is_term(term))
        parts = [X] * 2500
        while len(parts) > 1:
            parts = [("add", *parts[at:at + 2]) if at + 1 < len(parts) else parts[at] for at in range(0, len(parts), 2)]
        self.assertTrue(is_term(parts[0]))
        self.assertTrue(is_term(("not", parts[0])))
        self.assertFalse(is_term(("not", ("not", parts[0]))))
        for _ in range(60):
            term = ("add", term, term)
        self.assertFalse(is_term(term))

    def test_unknowns(self):
        term = ("add", ("mul", X, R), ("sub", X, ("part", 0, ("tag", "Foo", ("answer",), ("slot", 7), value(1)))))
        self.assertEqual(unknowns(term), sorted({X, R, ("answer",), ("slot", 7)}))
        self.assertEqual((unknowns(value(1)), unknowns(("self",)), unknowns(X)), ([], [], [X]))
        for odd in ODD:
            with self.assertRaises(InvalidTerm) as caught:
                unknowns(odd)
            self.assertIs(caught.exception.value, odd)


class KindTest(unittest.TestCase):
    def setUp(self):
        self.terms = Terms(VERSION, KINDS)

    def test_kinds(self):
        for term, kind in (
            (X, "int"), (B, "bool"), (COL, "color"), (("self",), "task"), (value(3), "int"), (value(True), "bool"),
            (value("a"), "task"), (value(("Red",)), "color"), (("add", X, R), "int"), (("sub", X, value(1)), "int"),
            (("mul", X, Y), "int"), (("div", X, Y), "int"), (("mod", X, Y), "int"), (("less", X, Y), "bool"),
            (("same", X, Y), "bool"), (("same", COL, COL), "bool"), (("same", T, ("self",)), "bool"), (("and", B, C), "bool"),
            (("or", B, C), "bool"), (("not", B), "bool"), (("tag", "Red"), "color"), (("tag", "Mix", X, T), "color"),
            (("tag", "Two", COL, B), "pair"), (("is", "Red", COL), "bool"), (("part", 0, PR), "color"), (("part", 1, PR), "bool"),
            (("part", 0, ("tag", "Mix", X, T)), "int"), (("part", 1, value(("Mix", 1, "a"))), "task"), (("answer",), "int"),
        ):
            self.assertEqual(self.terms.kind(term), kind, term)
            self.assertTrue(self.terms.is_defined(term))

    def test_what_is_not_defined(self):
        for term in (
            ("var", (), "z"), ("slot", 4), value(("Foo",)), value(("Red", 1)), value(("Mix", True, "a")), ("add", X, B), ("less", B, C),
            ("add", X, T), ("same", X, B), ("same", COL, PR), ("and", B, X), ("not", X), ("tag", "Red", X), ("tag", "Mix", X),
            ("tag", "Foo"), ("tag", "Mix", T, X), ("is", "Red", X), ("is", "Two", COL), ("is", "Foo", COL), ("part", 0, COL),
            ("part", 0, X), ("part", 2, PR), ("part", 0, ("tag", "Red")), ("part", 0, SZ), ("not", ("part", 0, COL)),
        ):
            self.assertFalse(self.terms.is_defined(term), term)
            for method in (self.terms.kind, self.terms.normal, lambda one: self.terms.same_terms(one, one)):
                with self.assertRaises(InvalidTerm) as caught:
                    method(term)
                self.assertIs(caught.exception.value, term)
        for odd in ODD:
            self.assertFalse(self.terms.is_defined(odd))
            self.assertRaises(InvalidTerm, self.terms.kind, odd)

    def test_known_tags(self):
        part = ("part", 0, COL)
        for conditions, good in (
            ([(("is", "Mix", COL), True)], True), ([(("is", "Red", COL), False)], True), ([(("is", "Red", COL), True)], False),
            ([(("is", "Mix", COL), False)], False), ([], False), ([(B, True)], False),
        ):
            terms = Terms(VERSION, KINDS, conditions)
            self.assertEqual(terms.is_defined(part), good, conditions)
            if good:
                self.assertEqual(terms.kind(part), "int")
        terms = Terms(VERSION, KINDS, [(("is", "Big", SZ), False)])
        self.assertFalse(terms.is_defined(("part", 0, SZ)))
        self.assertEqual(terms.given((("is", "Mid", SZ), False)).kind(("part", 2, SZ)), "int")
        self.assertEqual(terms.given((("is", "Low", SZ), False)).kind(("part", 0, SZ)), "bool")


class ErrorsTest(unittest.TestCase):
    def raises(self, kinds, conditions, wanted):
        with self.assertRaises(InvalidTerm) as caught:
            Terms(VERSION, kinds, conditions)
        self.assertIs(caught.exception.value, wanted)

    def test_unknowns_and_kinds(self):
        for odd in (1, "x", ("add", X, X), ("var", (), "X"), ("answer", 1), ("slot", 100), None):
            self.raises({odd: "int"}, [(odd, 1)], odd)
        for odd in (*ODD, "nope", "Red"):
            self.raises({X: odd}, [3], X)

    def test_conditions(self):
        for odd in (*ODD, (X, True), (B, 1), (B, None), [B, True], (B, True, 1), (("less", X, B), True), (("var", (), "z"), True)):
            self.raises(KINDS, [(B, True), odd, 5], odd)
            with self.assertRaises(InvalidTerm) as caught:
                Terms(VERSION, KINDS).given(odd)
            self.assertIs(caught.exception.value, odd)
            terms = Terms(VERSION, KINDS)
            for pair in ((odd, odd), ((B, True), odd), (odd, (B, True))):
                with self.assertRaises(InvalidTerm) as caught:
                    terms.exclude(*pair)
                self.assertIs(caught.exception.value, odd)

    def test_conditions_rest_on_those_before(self):
        inner = (("less", ("part", 0, COL), X), True)
        self.raises(KINDS, [inner], inner)
        self.assertTrue(Terms(VERSION, KINDS, [(("is", "Mix", COL), True), inner]).is_defined(X))
        self.assertTrue(Terms(version=VERSION, kinds=KINDS, conditions=()).is_defined(X))

    def test_copies(self):
        kinds, conditions = dict(KINDS), [(B, True)]
        terms = Terms(VERSION, kinds, conditions)
        kinds.clear()
        conditions.append(5)
        self.assertEqual(terms.kind(X), "int")
        self.assertFalse(terms.given((C, True)).exclude((C, True), (B, True)))
        self.assertFalse(terms.same_terms(C, TRUE))


class RewritingTest(unittest.TestCase):
    """Each rule of [42], also within other terms."""

    def setUp(self):
        self.terms = Terms(VERSION, KINDS)

    def check(self, one, other, terms=None, equal=True):
        terms = terms or self.terms
        self.assertEqual(terms.same_terms(one, other), equal, (one, other))
        self.assertEqual(terms.same_terms(one=other, other=one), equal)
        self.assertEqual(terms.normal(one) == terms.normal(other), equal)
        self.assertIsInstance(terms.normal(one), tuple)
        self.assertEqual(terms.normal(one), terms.normal(term=one))
        again = Terms(VERSION, KINDS)
        if terms is self.terms:
            self.assertEqual(again.normal(one) == again.normal(other), equal)
            self.assertEqual(again.normal(other), terms.normal(other))
        kind = terms.kind(one)
        if kind == "bool":
            self.assertEqual(terms.same_terms(("tag", "Two", COL, one), ("tag", "Two", COL, other)), equal)
        if kind == "int":
            self.assertEqual(terms.same_terms(("div", Y, one), ("div", Y, other)), equal)
            self.assertEqual(terms.same_terms(("less", Y, one), ("less", Y, other)), equal)

    def test_values(self):
        for term, datum in (
            (("add", value(2), value(3)), 5), (("div", value(-7), value(2)), -4), (("mod", value(-7), value(2)), 1),
            (("div", value(7), value(0)), 0), (("less", value(1), value(2)), True), (("same", value("a"), value("b")), False),
            (("same", value(("Red",)), value(("Red",))), True), (("and", TRUE, FALSE), False), (("not", TRUE), False),
            (("tag", "Mix", value(1), value("a")), ("Mix", 1, "a")), (("is", "Red", value(("Red",))), True),
            (("part", 0, value(("Mix", 1, "a"))), 1), (("same", value(("Red",)), value(("Mix", 1, ""))), False),
        ):
            self.check(term, value(datum))

    def test_integers(self):
        x2 = ("mul", X, X)
        for one, other in (
            (("add", X, Y), ("add", Y, X)), (("sub", X, X), value(0)), (("mul", X, value(0)), value(0)),
            (("mul", ("add", X, value(1)), ("sub", X, value(1))), ("sub", x2, value(1))),
            (("mul", ("add", X, Y), ("add", X, Y)), ("add", ("add", x2, ("mul", Y, Y)), ("mul", value(2), ("mul", Y, X)))),
            (("sub", X, ("sub", X, Y)), Y), (("add", ("div", X, Y), ("div", X, Y)), ("mul", ("div", X, Y), value(2))),
            (("div", ("add", X, Y), Y), ("div", ("add", Y, X), Y)), (("sub", value(0), ("sub", X, Y)), ("sub", Y, X)),
        ):
            self.check(one, other)
        for one, other in ((X, Y), (X, ("add", X, value(1))), (("div", X, Y), ("div", Y, X)), (x2, X), (("mod", X, Y), ("div", X, Y)),
                           (("mul", X, Y), ("add", X, Y)), (value(1), value(2))):
            self.check(one, other, equal=False)

    def test_less(self):
        for one, other in (
            (("less", X, Y), ("less", value(0), ("sub", Y, X))), (("not", ("less", X, Y)), ("less", Y, ("add", X, value(1)))),
            (("less", X, X), FALSE), (("less", X, ("add", X, value(1))), TRUE), (("less", ("add", X, Y), Y), ("less", X, value(0))),
            (("not", ("not", ("less", X, Y))), ("less", X, Y)), (("less", X, Y), ("not", ("less", Y, ("add", value(1), X)))),
        ):
            self.check(one, other)
        for one, other in ((("less", X, Y), ("less", Y, X)), (("less", X, Y), ("not", ("less", Y, X))), (("less", X, value(0)), B)):
            self.check(one, other, equal=False)

    def test_same(self):
        for one, other in (
            (("same", B, C), ("same", C, B)), (("same", COL, COL), TRUE), (("same", T, U), ("same", U, T)),
            (("same", X, Y), ("same", value(0), ("sub", Y, X))), (("same", X, Y), ("same", Y, X)),
            (("same", ("add", X, value(1)), ("add", value(1), X)), TRUE), (("same", X, ("add", X, value(2))), FALSE),
        ):
            self.check(one, other)
        for one, other in ((("same", X, Y), ("same", X, value(1))), (("same", B, C), B), (("same", T, U), TRUE)):
            self.check(one, other, equal=False)

    def test_truths(self):
        for one, other in (
            (("not", ("not", B)), B), (("and", B, C), ("and", C, B)), (("or", B, C), ("or", C, B)), (("and", B, TRUE), B),
            (("and", FALSE, B), FALSE), (("or", B, TRUE), TRUE), (("or", FALSE, B), B), (("and", B, B), B), (("or", B, B), B),
            (("and", ("less", X, Y), ("not", ("less", Y, ("add", X, value(1))))), ("less", X, Y)),
        ):
            self.check(one, other)
        for one, other in ((B, C), (B, ("not", B)), (("and", B, C), ("or", B, C)), (("and", B, C), B), (TRUE, FALSE), (B, TRUE)):
            self.check(one, other, equal=False)

    def test_tags(self):
        mix = ("tag", "Mix", X, T)
        for one, other in (
            (("part", 0, mix), X), (("part", 1, mix), T), (("is", "Mix", mix), TRUE), (("is", "Red", mix), FALSE),
            (("is", "Two", PR), TRUE), (("part", 0, ("tag", "Two", mix, B)), mix), (("part", 0, ("part", 0, ("tag", "Two", mix, B))), X),
            (("tag", "Mix", ("add", X, value(0)), T), mix),
        ):
            self.check(one, other)
        for one, other in ((mix, ("tag", "Mix", Y, T)), (mix, ("tag", "Red")), (("is", "Red", COL), TRUE), (("is", "Red", COL), FALSE),
                           (("part", 0, PR), COL)):
            self.check(one, other, equal=False)

    def test_rounds(self):
        for one, other in (
            (("same", ("add", R, value(1)), value(0)), FALSE), (("less", value(0), ("add", R, value(1))), TRUE),
            (("less", ("add", ("add", R, Q), value(2)), value(0)), FALSE), (("same", value(-2), ("add", Q, ("add", R, R))), FALSE),
            (("less", ("add", R, value(1)), value(1)), ("less", R, value(0))),
        ):
            self.check(one, other)
        for one, other in ((("same", R, value(0)), FALSE), (("same", ("add", X, value(1)), value(0)), FALSE),
                           (("same", ("sub", R, value(1)), value(0)), FALSE), (("same", ("sub", value(1), R), value(0)), FALSE)):
            self.check(one, other, equal=False)

    def test_conditions(self):
        def under(*conditions):
            return Terms(VERSION, KINDS, list(conditions))
        for terms, one, other in (
            (under((B, True)), B, TRUE), (under((B, False)), ("or", C, B), C), (under((("not", B), True)), B, FALSE),
            (under((("less", X, Y), True)), ("less", Y, ("add", X, value(1))), FALSE),
            (under((("same", X, Y), True)), ("same", Y, X), TRUE), (under((("same", X, Y), False)), ("same", ("sub", X, Y), value(0)), FALSE),
            (under((("is", "Mix", COL), True)), ("is", "Red", COL), FALSE), (under((("is", "Mix", COL), False)), ("is", "Red", COL), TRUE),
            (under((("and", B, C), True)), ("and", C, B), TRUE), (under((("and", B, C), True), (C, True)), B, TRUE),
            (under((C, True), (("and", B, C), True)), B, TRUE), (under((("or", B, C), False), (("not", C), True)), B, FALSE),
            (under((("same", B, C), True), (C, True)), ("same", B, TRUE), TRUE), (under((B, True)), ("tag", "Two", COL, B), ("tag", "Two", COL, TRUE)),
            (under((("same", PR, ("tag", "Two", COL, B)), True), (B, True)), ("same", ("tag", "Two", COL, TRUE), PR), TRUE),
            (under((("is", "Big", SZ), False), (("is", "Mid", SZ), False)), ("is", "Low", SZ), TRUE),
        ):
            self.check(one, other, terms)
        for terms, one, other in (
            (under((B, True)), C, TRUE), (under((("or", B, C), True)), B, TRUE), (under((("less", X, Y), True)), ("less", Y, X), TRUE),
            (under((("is", "Big", SZ), False)), ("is", "Low", SZ), TRUE), (under((("same", X, Y), True)), ("less", X, Y), TRUE),
        ):
            self.check(one, other, terms, equal=False)

    def test_exclude(self):
        for one, other in (
            ((B, True), (B, False)), ((("not", B), True), (B, True)), ((("less", X, Y), True), (("less", Y, ("add", X, value(1))), True)),
            ((("is", "Red", COL), True), (("is", "Mix", COL), True)), ((("is", "Big", SZ), True), (("is", "Low", SZ), True)),
            ((("and", B, C), True), (("and", C, B), False)), ((("same", X, Y), True), (("same", Y, X), False)),
        ):
            self.assertTrue(self.terms.exclude(one, other), (one, other))
            self.assertTrue(self.terms.exclude(one=other, other=one))
        for one, other in (
            ((B, True), (B, True)), ((B, True), (C, False)), ((("is", "Red", COL), False), (("is", "Mix", COL), True)),
            ((("is", "Big", SZ), False), (("is", "Low", SZ), False)), ((("less", X, Y), True), (("less", X, value(3)), False)),
        ):
            self.assertFalse(self.terms.exclude(one, other), (one, other))
        given = self.terms.given((("same", B, C), True)).given(condition=(C, True))
        self.assertTrue(given.exclude((("same", B, TRUE), False), (("same", B, TRUE), True)))
        self.assertFalse(self.terms.same_terms(C, TRUE))


def grown(leaves, words, most):
    """All terms of these leaves with at most so many of these operations; words are tuples (word, number of operands)."""
    rows = [list(leaves)]
    for count in range(1, most + 1):
        row = []
        for word, operands in words:
            if operands == 1:
                row.extend((word, inner) for inner in rows[count - 1])
            else:
                row.extend((word, *pair) for left in range(count) for pair in product(rows[left], rows[count - 1 - left]))
        rows.append(row)
    return [term for row in rows for term in row]


class ExchangeTest(unittest.TestCase):
    """Operands are exchanged, whatever they are made of and in whatever sequence terms are asked about."""

    TRUTHS = grown((B, C), (("and", 2), ("or", 2), ("same", 2), ("not", 1)), 2)
    QUOTIENTS = grown((X, Y, R), (("div", 2), ("mod", 2)), 2)
    COMPARISONS = [("less", *pair) for pair in product(grown((X, Y), (("div", 2), ("mod", 2)), 1), repeat=2)]

    def check(self, words, terms):
        known = Terms(VERSION, KINDS)
        for one, other in combinations(terms, 2):
            for word in words:
                self.assertTrue(known.same_terms((word, one, other), (word, other, one)), (word, one, other))

    def test_truths(self):
        self.check(("and", "or", "same"), self.TRUTHS)
        self.check(("and", "same"), self.COMPARISONS)

    def test_integers(self):
        self.check(("mul",), self.QUOTIENTS)

    def test_normal_forms_do_not_rest_on_what_was_asked_before(self):
        for words, terms in ((("and", "or", "same"), self.TRUTHS[:90]), (("mul", "add"), self.QUOTIENTS[:90])):
            asked = [(word, one, other) for word in words for one, other in combinations(terms, 2)]
            first, second = Terms(VERSION, KINDS), Terms(VERSION, dict(reversed(list(KINDS.items()))))
            forms = [first.normal(term) for term in asked]
            others = [second.normal((word, other, one)) for word, one, other in reversed(asked)]
            self.assertTrue(forms == others[::-1])
            for at in range(0, len(asked), 50):
                self.assertEqual(Terms(VERSION, KINDS).normal(asked[at]), forms[at], asked[at])

    def test_what_is_not_equal(self):
        terms = Terms(VERSION, KINDS)
        p, q = ("and", B, ("not", C)), ("not", ("and", B, C))
        d, m = ("div", X, ("mod", Y, R)), ("mod", X, ("div", Y, R))
        for one, other in ((p, q), (("or", p, q), ("and", q, p)), (("or", p, q), ("or", p, p)), (d, m),
                           (("mul", d, m), ("mul", d, d)), (("sub", d, m), ("sub", m, d)), (("less", d, m), ("less", m, d)),
                           (("tag", "Two", COL, p), ("tag", "Two", COL, q)), (("div", d, m), ("div", m, d))):
            self.assertFalse(terms.same_terms(one, other), (one, other))
            self.assertNotEqual(terms.normal(one), terms.normal(other))

    def test_within_other_terms(self):
        terms = Terms(VERSION, KINDS, [(("is", "Mix", COL), True)])
        d, m = ("div", X, ("mod", Y, R)), ("mod", X, ("div", Y, R))
        p, q = ("and", B, ("not", C)), ("not", ("and", B, C))
        for one, other in (
            (("tag", "Two", COL, ("or", p, q)), ("tag", "Two", COL, ("or", q, p))),
            (("same", PR, ("tag", "Two", COL, p)), ("same", ("tag", "Two", COL, p), PR)),
            (("div", ("mul", d, m), ("add", d, m)), ("div", ("mul", m, d), ("add", m, d))),
            (("mul", ("add", d, m), ("sub", d, m)), ("sub", ("mul", d, d), ("mul", m, m))),
            (("less", ("mul", ("part", 0, COL), d), m), ("less", value(0), ("sub", m, ("mul", d, ("part", 0, COL))))),
            (("same", ("mul", d, m), Y), ("same", ("sub", Y, ("mul", m, d)), value(0))),
        ):
            self.assertTrue(terms.same_terms(one, other), (one, other))
            self.assertEqual(terms.normal(one), Terms(VERSION, KINDS, [(("is", "Mix", COL), True)]).normal(other))

    def test_conditions(self):
        p, q = ("and", B, ("not", C)), ("not", ("and", B, C))
        terms = Terms(VERSION, KINDS, [(("or", p, q), True)])
        self.assertTrue(terms.same_terms(("or", q, p), TRUE))
        self.assertTrue(terms.exclude((("same", p, q), True), (("same", q, p), False)))
        self.assertFalse(terms.exclude((("same", p, q), True), (("same", q, p), True)))

    def test_operands_that_differ_deep_within(self):
        terms = Terms(VERSION, KINDS)
        truths, integers = (B, C), (X, Y)
        for _ in range(24):
            truths = [("not", ("or", one, ("is", "Red", COL))) for one in truths]
            integers = [("div", ("mod", one, R), value(3)) for one in integers]
        for word, pair in (("and", truths), ("or", truths), ("same", truths), ("mul", integers)):
            self.assertFalse(terms.same_terms(*pair))
            self.assertTrue(terms.same_terms((word, *pair), (word, *pair[::-1])))


class DeepConditionTest(unittest.TestCase):
    """A condition becomes its truth however deep the term is, as long as it is not large."""

    def test_behind_deep_integers(self):
        deep = X
        for _ in range(90):
            deep = ("div", deep, value(2))
        less = ("less", value(0), deep)
        terms = Terms(VERSION, KINDS, [(B, True)])
        self.assertTrue(terms.same_terms(("and", less, B), less))
        self.assertTrue(terms.same_terms(("or", ("not", B), ("and", B, less)), less))
        self.assertTrue(Terms(VERSION, KINDS, [(("and", B, less), True)]).exclude((B, True), (less, False)))
        self.assertFalse(terms.same_terms(("and", less, C), less))

    def test_in_deep_truths(self):
        for under, truth in ((B, True), (("not", B), False)):
            terms = Terms(VERSION, KINDS, [(under, truth)])
            deep = ("and", C, B)
            for _ in range(96):
                deep = ("not", deep)
            self.assertTrue(terms.same_terms(deep, C))
            deep = C
            for word in ("and", "same") * 24:
                deep = (word, deep, B) if word == "and" else (word, B, deep)
            other = C
            for _ in range(24):
                other = ("same", other, TRUE)
            self.assertTrue(terms.same_terms(deep, other))
            self.assertEqual(terms.normal(deep), terms.normal(other))


class ChanceTest(unittest.TestCase):
    """Terms by chance: what is told to be equal has equal values, also under conditions."""

    def integer(self, chance, levels):
        if levels == 0 or chance.random() < 0.2:
            return chance.choice((X, Y, R, value(chance.randint(-2, 2))))
        word = chance.choice(("add", "sub", "mul", "add", "sub", "div", "mod"))
        return (word, self.integer(chance, levels - 1), self.integer(chance, levels - 1))

    def truth(self, chance, levels):
        if levels == 0 or chance.random() < 0.1:
            return chance.choice((B, C, value(chance.random() < 0.5), ("is", "Red", COL), ("is", "Mix", COL)))
        word = chance.choice(("less", "same", "and", "or", "not", "same"))
        if word == "not":
            return (word, self.truth(chance, levels - 1))
        if word == "less" or word == "same" and chance.random() < 0.6:
            return (word, self.integer(chance, min(levels - 1, 2)), self.integer(chance, min(levels - 1, 2)))
        if word == "same" and chance.random() < 0.5:
            return (word, ("tag", "Two", COL, self.truth(chance, levels - 1)), ("tag", "Two", COL, self.truth(chance, levels - 1)))
        return (word, self.truth(chance, levels - 1), self.truth(chance, levels - 1))

    def worlds(self):
        for x, y, r, b, c in product((-2, -1, 0, 1, 3), (-1, 0, 2), (0, 1), (True, False), (True, False)):
            for col in (("Red",), ("Mix", 1, "a")):
                yield {X: x, Y: y, R: r, B: b, C: c, COL: col}

    def test_what_is_equal_has_equal_values(self):
        worlds, chance, equal = list(self.worlds()), Random(5), 0
        for _ in range(60):
            conditions = [(self.truth(chance, 2), chance.random() < 0.5) for _ in range(chance.randint(0, 3))]
            terms = Terms(VERSION, KINDS, conditions)
            fitting = [world for world in worlds if all(term_value(term, world) == truth for term, truth in conditions)]
            for make in (self.truth, self.integer):
                found = [make(chance, 3) for _ in range(12)]
                by_form = {}
                for term in found:
                    form = terms.normal(term)
                    values = [term_value(term, world) for world in fitting]
                    if form in by_form:
                        equal += 1
                    self.assertEqual(by_form.setdefault(form, values), values, (term, conditions))
        self.assertGreater(equal, 50)

    def test_rewritten_terms_are_recognized(self):
        chance = Random(6)
        for _ in range(300):
            terms = Terms(VERSION, KINDS, [(self.truth(chance, 1), True) for _ in range(chance.randint(0, 2))])
            term = self.truth(chance, 3)
            self.assertTrue(terms.same_terms(term, self.rewritten(chance, term)), term)

    def rewritten(self, chance, term):
        word = term[0]
        if word in ("var", "round", "value", "is"):
            return ("and", term, TRUE) if word == "is" or term in (B, C) else term
        if word == "tag":
            return ("part", 0, ("tag", "Two", (*term[:2], *[self.rewritten(chance, part) for part in term[2:]]), B)) \
                if term[1] == "Mix" else (*term[:2], *[self.rewritten(chance, part) for part in term[2:]])
        parts = [self.rewritten(chance, part) for part in term[1:]]
        if word in ("and", "or", "same", "add", "mul"):
            parts.reverse()
        if word == "less":
            return ("not", ("less", parts[1], ("add", parts[0], value(1))))
        if word == "sub":
            return ("add", parts[0], ("mul", value(-1), parts[1]))
        return ("not", ("not", (word, *parts))) if word in ("and", "or", "same", "not") else (word, *parts)


class Rewriter:
    """Rewrites terms by the rules of [42], at any place, also by conditions."""

    def __init__(self, chance, conditions):
        self.chance, self.conditions = chance, conditions
        self.kind = Terms(VERSION, KINDS).kind

    def same(self, one, other):
        return repr(one) == repr(other)

    def of_integer(self, term):
        word = term[0]
        yield from (("add", term, value(0)), ("mul", term, value(1)), ("sub", ("add", term, Y), Y), ("part", 0, ("tag", "Mix", term, T)))
        if word in ("add", "mul"):
            yield (word, term[2], term[1])
        if word == "add" and term[1][0] == "add":
            yield ("add", term[1][1], ("add", term[1][2], term[2]))
        if word == "mul" and term[2][0] in ("add", "sub"):
            yield (term[2][0], ("mul", term[1], term[2][1]), ("mul", term[1], term[2][2]))
        if word == "sub":
            yield ("add", term[1], ("mul", value(-1), term[2]))
        if word == "value":
            yield ("add", value(term[1] - 3), value(3))

    def of_truth(self, term):
        word = term[0]
        yield from (("not", ("not", term)), ("and", term, TRUE), ("or", FALSE, term), ("and", term, term), ("or", term, term),
                    ("part", 1, ("tag", "Two", COL, term)))
        if word in ("and", "or", "same"):
            yield (word, term[2], term[1])
        if word == "less":
            yield from (("not", ("less", term[2], ("add", term[1], value(1)))), ("less", value(0), ("sub", term[2], term[1])))
        if word == "not" and term[1][0] == "less":
            yield ("less", term[1][2], ("add", term[1][1], value(1)))
        if word == "same" and self.kind(term[1]) == "int":
            yield from (("same", ("sub", term[1], term[2]), value(0)), ("same", value(0), ("sub", term[1], term[2])))
        if self.same(term, TRUE):
            yield from (("same", COL, COL), ("less", value(0), ("add", R, value(1))), ("or", B, TRUE), ("is", "Two", PR))
        if self.same(term, FALSE):
            yield from (("same", ("add", R, value(1)), value(0)), ("and", B, FALSE), ("is", "Red", ("tag", "Mix", X, T)))

    def at_root(self, term):
        kind, found = self.kind(term), []
        for condition, truth in self.conditions:
            if self.same(term, condition):
                found.append(value(truth))
            if self.same(term, value(truth)):
                found.append(condition)
        if kind in ("int", "bool"):
            found.extend(self.of_integer(term) if kind == "int" else self.of_truth(term))
        return self.chance.choice(found) if found else term

    def anywhere(self, term):
        first = {"tag": 2, "is": 2, "part": 2}.get(term[0], 1)
        places = [] if term[0] in ("var", "round", "value") else list(range(first, len(term)))
        if not places or self.chance.random() < 0.35:
            return self.at_root(term)
        at = self.chance.choice(places)
        return (*term[:at], self.anywhere(term[at]), *term[at + 1:])


class RewritingByChanceTest(unittest.TestCase):
    def test_rewritten_terms_are_recognized(self):
        maker = ChanceTest()
        for seed in range(400):
            chance = Random(seed)
            conditions = [(maker.truth(chance, 2), chance.random() < 0.6) for _ in range(chance.randint(0, 3))]
            terms, rewriter = Terms(VERSION, KINDS, conditions), Rewriter(chance, conditions)
            term = maker.truth(chance, 3) if chance.random() < 0.7 else ("tag", "Two", COL, maker.truth(chance, 2))
            other = term
            for _ in range(chance.randint(1, 25)):
                further = rewriter.anywhere(other)
                other = further if is_term(further) and len(repr(further)) < 3000 else other
            self.assertTrue(terms.same_terms(term, other), (seed, term, other, conditions))


class LargeTest(unittest.TestCase):
    def balanced(self, parts, word):
        while len(parts) > 1:
            parts = [(word, *parts[at:at + 2]) if at + 1 < len(parts) else parts[at] for at in range(0, len(parts), 2)]
        return parts[0]

    def test_reasonable_time(self):
        names = [("var", (), "q" + one + other) for one in "bcdefghijk" for other in "abcdefghij"]
        terms = Terms(VERSION, {name: "int" for name in names})
        sums = [self.balanced(names[at:at + 20], "add") for at in range(0, 80, 4)]
        products = [self.balanced(names[at:at + 20], "mul") for at in range(0, 80, 4)]
        deep, power, number = names[0], names[1], value(10 ** 200)
        for at in range(90):
            deep = ("mul", deep, ("add", names[at], ("sub", names[at + 1], names[at - 1])))
        for _ in range(11):
            power, number = ("mul", power, power), ("mul", number, number)
        begun = time.monotonic()
        for term in (self.balanced(sums * 5, "mul"), self.balanced(products * 5, "add"), self.balanced(names * 24, "add"), deep,
                     power, number, self.balanced([("div", name, value(2)) for name in names] * 12, "mul")):
            self.assertTrue(is_term(term))
            self.assertTrue(terms.same_terms(term, term))
            self.assertFalse(terms.same_terms(term, ("add", term, value(1))))
        self.assertLess(time.monotonic() - begun, 20)

    def test_a_hundred_products(self):
        names = [("var", (), "q" + one + other) for one in "bcdefghijk" for other in "abcdefghij"]
        terms = Terms(VERSION, {name: "int" for name in names})
        one, other = self.balanced(names[:10], "add"), self.balanced(names[10:20], "add")
        whole = self.balanced([("mul", first, second) for first in names[:10] for second in names[10:20]], "add")
        self.assertTrue(terms.same_terms(("mul", one, other), whole))
        self.assertTrue(terms.same_terms(("sub", ("mul", one, other), ("mul", other, one)), value(0)))
