"""heldover.values: words, kinds and values."""

import unittest

from heldover.errors import InvalidKinds, UnknownName
from heldover.values import RESERVED, Kinds, is_label, is_name, is_tag, is_task_string
from tests.anything import ODD, nested

WORDS = (
    "add and ask become bool both break call case div door else false function if int key kind less local loop match mod "
    "module mul not on or raise receive return same self send set since sleep start sub task true try uses"
)
COLOR = ("color", (("Red", ()), ("Mix", ("int", "task"))))
PAIR = ("pair", (("Two", ("color", "bool")),))


def chain(count):
    """Kinds within each other."""
    letters = "abcdefghijklmnop"
    found = [("ka", (("Ta", ("int",)),))]
    for at in range(1, count):
        found.append(("k" + letters[at], (("T" + letters[at], ("k" + letters[at - 1],)),)))
    return found


class WordsTest(unittest.TestCase):
    def test_reserved(self):
        self.assertEqual(RESERVED, tuple(sorted(WORDS.split())))
        self.assertIsInstance(RESERVED, tuple)

    def test_is_name(self):
        for word in RESERVED:
            self.assertIs(is_name(word), False)
            self.assertIs(is_name(word + "x"), len(word) < 8)
        for good in ("a", "z", "abcdefgh", "tag", "is", "part", "mark"):
            self.assertIs(is_name(good), True)
        for bad in ("", "abcdefghi", "A", "aB", "a1", "1", "a_b", "a b", " a", "a\n", "a.b", "a-b"):
            self.assertIs(is_name(bad), False)

    def test_is_tag(self):
        for good in ("A", "Z", "Red", "Abcdefgh"):
            self.assertIs(is_tag(good), True)
        for bad in ("", "a", "red", "Abcdefghi", "RED", "R1", "R d", "Red\n", "Re_"):
            self.assertIs(is_tag(bad), False)

    def test_is_label(self):
        for good in ("1", "9", "10", "99", "a", "round"):
            self.assertIs(is_label(good), True)
        for bad in ("", "0", "01", "100", "-1", "+1", "1 ", " 1", "1a", "self", "A", "-", "00"):
            self.assertIs(is_label(bad), False)

    def test_is_task_string(self):
        for good in ("", " ", "~", "a/0/b.0", "x" * 199, "x" * 200, "'&!"):
            self.assertIs(is_task_string(good), True)
        for bad in ("x" * 201, 'a"', "50%", "a\\b", "a\nb", "\t", "\x7f"):
            self.assertIs(is_task_string(bad), False)

    def test_any_value(self):
        for test in (is_name, is_tag, is_label, is_task_string):
            for value in ODD:
                self.assertIsInstance(test(value), bool)
                if not isinstance(value, str):
                    self.assertIs(test(value), False)


class KindsTest(unittest.TestCase):
    def setUp(self):
        self.kinds = Kinds([COLOR, PAIR])

    def test_names_and_variants(self):
        self.assertEqual(self.kinds.names(), ["color", "pair"])
        self.assertEqual(Kinds().names(), [])
        self.assertEqual(self.kinds.variants("color"), COLOR[1])
        self.kinds.names().append("x")
        self.assertEqual(self.kinds.names(), ["color", "pair"])

    def test_is_kind(self):
        for kind in ("int", "bool", "task", "color", "pair"):
            self.assertIs(self.kinds.is_kind(kind), True)
        for value in (*ODD, "blue", "Red"):
            self.assertIs(self.kinds.is_kind(value), False)

    def test_is_value_of_basic_kinds(self):
        self.assertIs(self.kinds.is_value("int", 1), True)
        self.assertIs(self.kinds.is_value("int", -10 ** 400), True)
        self.assertIs(self.kinds.is_value("int", True), False)
        self.assertIs(self.kinds.is_value("bool", True), True)
        self.assertIs(self.kinds.is_value("bool", 1), False)
        self.assertIs(self.kinds.is_value("bool", 0), False)
        self.assertIs(self.kinds.is_value("task", ""), True)
        self.assertIs(self.kinds.is_value("task", "a%"), False)
        self.assertIs(self.kinds.is_value("task", 1), False)

    def test_is_value_of_declared_kinds(self):
        for good in (("Red",), ("Mix", 3, ""), ("Mix", -1, "ann")):
            self.assertIs(self.kinds.is_value("color", good), True)
        for bad in (["Red"], "Red", ("Red", 1), ("Mix",), ("Mix", 3), ("Mix", True, ""), ("Mix", 3, 4), ("Mix", 3, "", 1),
                    ("Two", ("Red",), True), ("mix", 3, ""), ()):
            self.assertIs(self.kinds.is_value("color", bad), False)
        self.assertIs(self.kinds.is_value("pair", ("Two", ("Mix", 1, "a"), True)), True)
        self.assertIs(self.kinds.is_value("pair", ("Two", ["Red"], True)), False)
        self.assertIs(self.kinds.is_value("pair", ("Two", ("Red",), 1)), False)
        for value in ODD:
            self.assertIs(self.kinds.is_value("color", value), False)
            self.assertIs(self.kinds.is_value("pair", ("Two", value, True)), False)

    def test_zero(self):
        self.assertEqual([self.kinds.zero(kind) for kind in ("int", "bool", "task")], [0, False, ""])
        self.assertIs(self.kinds.zero("bool"), False)
        self.assertEqual(self.kinds.zero("color"), ("Red",))
        self.assertEqual(self.kinds.zero("pair"), ("Two", ("Red",), False))

    def test_alike_within(self):
        again = ("hue", COLOR[1])
        self.assertIs(self.kinds.alike("int", "int"), True)
        self.assertIs(self.kinds.alike("int", "bool"), False)
        self.assertIs(self.kinds.alike("color", "color"), True)
        self.assertIs(self.kinds.alike("color", "pair"), False)
        self.assertIs(self.kinds.alike("color", "int"), False)
        self.assertIs(self.kinds.alike("task", "pair"), False)
        self.assertRaises(InvalidKinds, Kinds, [COLOR, again])

    def test_alike_with_others(self):
        other = Kinds([("hue", COLOR[1]), ("two", (("Two", ("hue", "bool")),)), ("flat", (("One", ("int",)),))])
        self.assertIs(self.kinds.alike("color", "hue", kinds=other), True)
        self.assertIs(self.kinds.alike("pair", "two", kinds=other), True)
        self.assertIs(self.kinds.alike("pair", "flat", kinds=other), False)
        self.assertIs(self.kinds.alike("bool", "bool", kinds=other), True)
        swapped = Kinds([("color", COLOR[1][::-1])])
        self.assertIs(self.kinds.alike("color", "color", kinds=swapped), False)
        fewer = Kinds([("color", COLOR[1][:1])])
        self.assertIs(self.kinds.alike("color", "color", kinds=fewer), False)
        self.assertIs(fewer.alike("color", "color", kinds=self.kinds), False)
        fields = Kinds([("color", (("Red", ()), ("Mix", ("int",))))])
        self.assertIs(self.kinds.alike("color", "color", kinds=fields), False)
        deeper = Kinds([("hue", (("Red", ()), ("Mix", ("int", "bool")))), ("pair", (("Two", ("hue", "bool")),))])
        self.assertIs(self.kinds.alike("pair", "pair", kinds=deeper), False)

    def test_twelve_within_each_other_with_many_fields(self):
        found = [("ka", (("A", ("int", "int", "int")), ("Ab", ("bool",))))]
        for one, before in zip("bcdefghijkl", "abcdefghijk"):
            fields = ("k" + before,) * 3
            upper = one.upper()
            found.append(("k" + one, ((upper, ("int",)), (upper + "a", fields), (upper + "b", fields))))
        kinds = Kinds(found)
        self.assertIs(kinds.alike("kl", "kl", kinds=Kinds(found)), True)
        self.assertIs(kinds.alike("kl", "kk"), False)
        self.assertEqual(kinds.zero("kl"), ("L", 0))

    def test_twelve_and_thirteen_within_each_other(self):
        kinds = Kinds(chain(12))
        self.assertEqual(len(kinds), 12)
        value = 0
        for letter in "abcdefghijkl":
            value = ("T" + letter, value)
        self.assertEqual(kinds.zero("kl"), value)
        self.assertIs(kinds.is_value("kl", value), True)
        self.assert_refused(chain(13), "limit", "km")
        bare = ("ka", (("Ta", ()),))
        self.assertEqual(len(Kinds([bare, *chain(12)[1:]])), 12)
        self.assert_refused([bare, *chain(13)[1:]], "limit", "km")
        self.assertEqual(len(Kinds(chain(12) + [("wide", (("Wide", ("kk",)),))])), 13)

    def test_equality_length_and_in(self):
        self.assertEqual(self.kinds, Kinds((COLOR, PAIR)))
        self.assertNotEqual(self.kinds, Kinds([COLOR]))
        self.assertNotEqual(self.kinds, [COLOR, PAIR])
        self.assertNotEqual(Kinds(), ())
        self.assertEqual((len(Kinds()), len(self.kinds)), (0, 2))
        self.assertIs("color" in self.kinds, True)
        for value in (*ODD, "Red", "int", "blue"):
            self.assertIs(value in self.kinds, False)

    def test_unknown_names(self):
        for value in (*ODD, "blue", "Red", [nested(5)], {"int": 1}):
            for call in (self.kinds.variants, self.kinds.zero, lambda kind: self.kinds.is_value(kind, 1),
                         lambda kind: self.kinds.alike(kind, "int"), lambda kind: self.kinds.alike("int", kind),
                         lambda kind: self.kinds.alike("int", kind, kinds=Kinds())):
                with self.assertRaises(UnknownName) as caught:
                    call(value)
                self.assertIs(caught.exception.name, value)
        self.assertRaises(UnknownName, self.kinds.variants, "int")
        self.assertRaises(UnknownName, self.kinds.alike, "color", "color", kinds=Kinds())

    def test_arguments_by_name(self):
        kinds = Kinds(declared=[COLOR])
        self.assertTrue(kinds.is_value(kind="color", value=("Red",)))
        self.assertTrue(kinds.alike(kind="color", other="color", kinds=None))
        self.assertEqual(kinds.zero(kind="int"), 0)
        self.assertEqual(kinds.variants(kind="color"), COLOR[1])
        self.assertTrue(kinds.is_kind(value="color"))

    def test_later_changes_have_no_effect(self):
        declared = [COLOR]
        kinds = Kinds(declared)
        declared.append(PAIR)
        self.assertEqual(kinds.names(), ["color"])
        self.assertEqual(declared, [COLOR, PAIR])

    def assert_refused(self, declared, problem, name):
        with self.assertRaises(InvalidKinds) as caught:
            Kinds(declared)
        self.assertEqual((caught.exception.problem, caught.exception.name), (problem, name))

    def test_no_list_of_kinds(self):
        for value in ODD:
            if not isinstance(value, (list, tuple)):
                self.assert_refused(value, "kinds", None)

    def test_form(self):
        for value in ODD:
            begins = isinstance(value, tuple) and value and isinstance(value[0], str) and value[0] == "a"
            self.assert_refused([value], "form", "a" if begins else None)
            self.assert_refused([COLOR, ("name", value)], "form", "name")
            self.assert_refused([("name", (("Tag", ()), value))], "form", "name")
            if not isinstance(value, tuple) or not all(isinstance(part, str) for part in value):
                self.assert_refused([("name", (("Tag", value),))], "form", "name")
            if not isinstance(value, str):
                self.assert_refused([("name", (("Tag", (value,)),))], "form", "name")
        for item, name in (
            (("name", ()), "name"), (["name", (("A", ()),)], None), (("name", [("A", ())]), "name"),
            (("name", (["A", ()],)), "name"), (("name", (("A", []),)), "name"), (("name", (("a", ()),)), "name"),
            (("int", (("A", ()),)), None), (("Name", (("A", ()),)), None), (("name", (("A", ()),), 1), "name"),
            (("name", tuple(("A" + letter, ()) for letter in "abcdefg")), "name"),
            (("name", (("A", ("int",) * 4),)), "name"), (("name", (("A", (), ()),)), "name"),
        ):
            self.assert_refused([item], "form", name)

    def test_six_variants_and_three_fields(self):
        kinds = Kinds([("name", tuple(("A" + letter, ("int",) * 3) for letter in "abcdef"))])
        self.assertEqual(kinds.zero("name"), ("Aa", 0, 0, 0))

    def test_name_tag_kind(self):
        self.assert_refused([COLOR, ("color", (("New", ()),))], "name", "color")
        self.assert_refused([COLOR, ("other", (("Red", ()),))], "tag", "other")
        self.assert_refused([("other", (("Red", ()), ("Red", ("int",))))], "tag", "other")
        self.assert_refused([PAIR, COLOR], "kind", "pair")
        self.assert_refused([("self", (("A", ()),))], "form", None)
        self.assert_refused([("tree", (("Leaf", ()), ("Node", ("tree",))))], "kind", "tree")
        self.assert_refused([("one", (("A", ("no such kind!",)),))], "kind", "one")

    def test_the_first_problem_decides(self):
        self.assert_refused([("color", (("Red", ("blue",)),)), 5], "kind", "color")
        self.assert_refused([COLOR, ("color", (("Red", ("blue",)),))], "name", "color")
        self.assert_refused([COLOR, ("other", (("Red", ("blue",)),))], "tag", "other")
        self.assert_refused([5, ("color", ())], "form", None)
        self.assert_refused(chain(12) + [("end", (("Ta", ("kl",)),))], "tag", "end")
        self.assert_refused(chain(12) + [("end", (("End", ("kl", "blue")),))], "kind", "end")
