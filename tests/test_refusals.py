"""heldover.versions: what is refused, with the first problem and its name."""

import unittest

from heldover.errors import InvalidVersion
from heldover.versions import Version
from tests.anything import ODD
from tests.samples import COLOR, function, module, version_of, version_with

ASK = ("ask", "", "x", "price", (1,))
SLEEP = ("sleep", "", 1)
LETTERS = "abcdefghijklmnopqrstuvwxyz"


class RefusalTest(unittest.TestCase):
    def refused(self, modules, problem, name):
        with self.assertRaises(InvalidVersion) as caught:
            Version(modules)
        self.assertEqual((caught.exception.problem, caught.exception.name), (problem, name))

    def in_body(self, problem, *body):
        """A function with this body is refused."""
        self.refused([module(function("run", *body))], problem, "run")

    def in_functions(self, problem, name, *functions):
        self.refused([module(*functions)], problem, name)


class ModulesTest(RefusalTest):
    def test_modules(self):
        for value in ODD:
            if not isinstance(value, (list, tuple)) or not value:
                self.refused(value, "modules", None)
        bare = [("m" + letter, (), (), (), (), ()) for letter in LETTERS[:7]]
        self.assertEqual(len(Version(bare[:6]).modules()), 6)
        self.refused(bare, "modules", None)
        self.refused({"a": 1}, "modules", None)

    def test_form_of_modules(self):
        for value in ODD:
            begins = isinstance(value, tuple) and value and isinstance(value[0], str) and value[0] == "a"
            self.refused([value], "form", "a" if begins else None)
        good = ("shop", (), (), (), (), ())
        for at in range(1, 6):
            for value in ODD:
                if not isinstance(value, tuple):
                    self.refused([(*good[:at], value, *good[at + 1:])], "form", "shop")
        self.refused([list(good)], "form", None)
        self.refused([good[:5]], "form", "shop")
        self.refused([(*good, ())], "form", "shop")
        self.refused([("Shop", *good[1:])], "form", None)
        self.refused([("self", *good[1:])], "form", None)
        self.refused([good, 5], "form", None)
        self.refused([("shop", (), (5,), (), (), [])], "form", "shop")

    def test_names_of_modules(self):
        bare = ("shop", (), (), (), (), ())
        self.refused([bare, bare], "name", "shop")
        for name in ("run", "color", "price", "paid"):
            self.refused([module(function("run")), (name, (), (), (), (), ())], "name", name)
        self.refused([bare, ("shop", ("nope",), (), (), (), ())], "name", "shop")

    def test_uses(self):
        base = ("base", (), (), (), (), ())
        Version([base, ("shop", ("base",), (), (), (), ())])
        for value in (*ODD, "shop", "later", "nope"):
            self.refused([base, ("shop", (value,), (), (), (), ()), ("later", (), (), (), (), ())], "uses", "shop")
        self.refused([base, ("shop", ("base", "base"), (), (), (), ())], "uses", "shop")
        self.refused([module(function("run")), ("more", ("run",), (), (), (), ())], "uses", "more")


class DeclarationsTest(RefusalTest):
    def shop(self, kinds=(), doors=(), keys=(), functions=()):
        return ("shop", (), kinds, doors, keys, functions)

    def test_form(self):
        for value in ODD:
            begins = isinstance(value, tuple) and value and isinstance(value[0], str) and value[0] == "a"
            name = "a" if begins else "shop"
            self.refused([self.shop(kinds=(value,))], "form", name)
            self.refused([self.shop(doors=(value,))], "form", name)
            self.refused([self.shop(keys=(value,))], "form", name)
            self.refused([self.shop(functions=(value,))], "form", name)
            if not isinstance(value, str):
                self.refused([self.shop(keys=(("paid", value),))], "form", "paid")
                self.refused([self.shop(doors=(("price", (), value),))], "form", "price")
                self.refused([self.shop(doors=(("price", (value,), "int"),))], "form", "price")
                self.refused([self.shop(functions=(("run", (), (), value, ()),))], "form", "run")
                self.refused([self.shop(functions=(("run", (("x", value),), (), "int", ()),))], "form", "run")
                self.refused([self.shop(functions=(("run", (), (("x", value),), "int", ()),))], "form", "run")
            if not isinstance(value, tuple):
                self.refused([self.shop(kinds=(("color", value),))], "form", "color")
                self.refused([self.shop(doors=(("price", value, "int"),))], "form", "price")
                self.refused([self.shop(functions=(("run", value, (), "int", ()),))], "form", "run")
                self.refused([self.shop(functions=(("run", (), value, "int", ()),))], "form", "run")
                self.refused([self.shop(functions=(("run", (), (), "int", value),))], "form", "run")
        self.refused([self.shop(kinds=(("Color", (("Red", ()),)),))], "form", "shop")
        self.refused([self.shop(doors=(("Price", (), "int"),))], "form", "shop")
        self.refused([self.shop(keys=(("self", "int"),))], "form", "shop")
        self.refused([self.shop(functions=(("Run", (), (), "int", ()),))], "form", "shop")
        self.refused([self.shop(keys=(("paid", "int", 1),))], "form", "paid")
        self.refused([self.shop(keys=(["paid", "int"],))], "form", "shop")
        self.refused([self.shop(doors=(("price", "int"),))], "form", "price")
        self.refused([self.shop(doors=(("price", ["int"], "int"),))], "form", "price")
        self.refused([self.shop(functions=(("run", (), (), "int"),))], "form", "run")
        self.refused([self.shop(functions=(("run", (["x", "int"],), (), "int", ()),))], "form", "run")
        self.refused([self.shop(functions=(("run", (("X", "int"),), (), "int", ()),))], "form", "run")

    def test_how_many(self):
        Version([self.shop(doors=(("price", ("int",) * 5, "int"),))])
        self.refused([self.shop(doors=(("price", ("int",) * 6, "int"),))], "form", "price")
        variables = tuple((letter, "int") for letter in LETTERS)
        Version([self.shop(functions=(("run", variables[:5], variables[5:13], "int", ()),))])
        self.refused([self.shop(functions=(("run", variables[:6], (), "int", ()),))], "form", "run")
        self.refused([self.shop(functions=(("run", (), variables[:9], "int", ()),))], "form", "run")
        self.refused([self.shop(kinds=(("color", tuple(("A" + one, ()) for one in "abcdefg")),))], "form", "color")
        self.refused([self.shop(kinds=(("color", ()),))], "form", "color")

    def test_names(self):
        kind, door, key, run = COLOR, ("price", (), "int"), ("paid", "int"), ("run", (), (), "int", ())
        self.refused([self.shop(kinds=(kind, ("color", (("New", ()),))))], "name", "color")
        self.refused([self.shop(kinds=(("shop", (("New", ()),)),))], "name", "shop")
        self.refused([self.shop(kinds=(kind,), doors=(("color", (), "int"),))], "name", "color")
        self.refused([self.shop(doors=(door, door))], "name", "price")
        self.refused([self.shop(doors=(door,), keys=(("price", "int"),))], "name", "price")
        self.refused([self.shop(keys=(key, key))], "name", "paid")
        self.refused([self.shop(keys=(key,), functions=(("paid", (), (), "int", ()),))], "name", "paid")
        self.refused([self.shop(functions=(run, run))], "name", "run")
        self.refused([self.shop(functions=(run,)), ("more", (), (), (), (("run", "int"),), ())], "name", "run")
        self.refused([self.shop(doors=(door, ("price", (), "blue")))], "name", "price")

    def test_tags(self):
        self.refused([self.shop(kinds=(COLOR, ("other", (("Red", ()),))))], "tag", "other")
        self.refused([self.shop(kinds=(COLOR,)), ("more", (), (("other", (("New", ()), ("Mix", ()))),), (), (), ())], "tag", "other")
        self.refused([self.shop(kinds=(("other", (("Red", ()), ("Red", ()))),))], "tag", "other")

    def test_kinds(self):
        pair = ("pair", (("Two", ("color",)),))
        self.refused([self.shop(kinds=(pair, COLOR))], "kind", "pair")
        self.refused([self.shop(kinds=(("tree", (("Leaf", ()), ("Node", ("tree",)))),))], "kind", "tree")
        self.refused([self.shop(doors=(("price", ("blue",), "int"),))], "kind", "price")
        self.refused([self.shop(doors=(("price", (), "blue"),))], "kind", "price")
        self.refused([self.shop(keys=(("paid", "blue"),))], "kind", "paid")
        self.refused([self.shop(keys=(("paid", ""),))], "kind", "paid")
        self.refused([self.shop(functions=(("run", (("x", "blue"),), (), "int", ()),))], "kind", "run")
        self.refused([self.shop(functions=(("run", (), (("x", "blue"),), "int", ()),))], "kind", "run")
        self.refused([self.shop(functions=(("run", (), (), "blue", ()),))], "kind", "run")
        self.refused([self.shop(functions=(("run", (("x", "Red"),), (), "int", ()),))], "kind", "run")

    def test_only_modules_that_are_used_are_visible(self):
        base = ("base", (), (COLOR,), (), (), ())
        middle = ("middle", ("base",), (("pair", (("Two", ("color",)),)),), (), (), ())
        Version([base, middle, ("last", ("middle", "base"), (), (), (("hue", "color"), ("twin", "pair")), ())])
        self.refused([base, ("last", (), (), (), (("hue", "color"),), ())], "kind", "hue")
        self.refused([base, middle, ("last", ("middle",), (), (), (("hue", "color"),), ())], "kind", "hue")
        self.refused([base, ("last", (), (("pair", (("Two", ("color",)),)),), (), (), ())], "kind", "pair")
        self.refused([base, ("last", (), (), (("pick", ("color",), "int"),), (), ())], "kind", "pick")
        self.refused([base, ("last", (), (), (("pick", (), "color"),), (), ())], "kind", "pick")
        self.refused([base, ("last", (), (), (), (), (("run", (("c", "color"),), (), "int", ()),))], "kind", "run")
        self.refused([base, ("last", (), (), (), (), (("run", (), (), "color", ()),))], "kind", "run")

    def test_twelve_and_thirteen_kinds_within_each_other(self):
        def chain(letters, before):
            found = []
            for letter in letters:
                found.append(("k" + letter, (("T" + letter, (before,)),)))
                before = "k" + letter
            return tuple(found)
        Version([self.shop(kinds=chain("abcdefghijkl", "int"))])
        self.refused([self.shop(kinds=chain("abcdefghijklm", "int"))], "limit", "km")
        base = ("base", (), chain("abcdef", "int"), (), (), ())
        middle = ("middle", ("base",), chain("ghijkl", "kf"), (), (), ())
        Version([base, middle])
        self.refused([base, middle, ("last", ("middle",), chain("m", "kl"), (), (), ())], "limit", "km")
        Version([base, middle, ("last", ("middle",), chain("m", "kk"), (), (), ())])

    def test_variables(self):
        self.refused([self.shop(functions=(("run", (("x", "int"),), (("x", "bool"),), "int", ()),))], "variables", "run")
        self.refused([self.shop(functions=(("run", (("x", "int"), ("x", "int")), (), "int", ()),))], "variables", "run")
        self.refused([self.shop(functions=(("run", (), (("x", "int"), ("x", "blue")), "int", ()),))], "kind", "run")
        self.refused([self.shop(functions=(("run", (), (("x", "int"), ("x", "int")), "int", (5,) * 13),))], "variables", "run")

    def test_how_many_functions(self):
        functions = tuple(("f" + letter, (), (), "int", ()) for letter in LETTERS[:25])
        self.assertEqual(len(Version([self.shop(functions=functions[:24])])), 24)
        self.refused([self.shop(functions=functions)], "limit", "fy")
        more = ("more", (), (), (), (), functions[20:])
        self.refused([self.shop(functions=functions[:20]), more], "limit", "fy")

    def test_order_of_declarations(self):
        bad = ("run", (), (), "int", (5,))
        self.refused([self.shop(keys=(5,), functions=(bad,))], "form", "shop")
        self.refused([self.shop(doors=(("price", (), "blue"),), keys=(5,))], "kind", "price")
        self.refused([self.shop(functions=(bad,)), 5], "form", "run")
        self.refused([self.shop(functions=(("one", (), (), "int", (("sleep", "", True),)), bad))], "kind", "one")


class StatementsTest(RefusalTest):
    def test_form(self):
        for value in ODD:
            self.in_body("form", value)
            self.in_body("form", ("set", "x", 1, value))
        for statement in (
            ("set", "x"), ["set", "x", 1], ("set", "X", 1), ("set", "self", 1), ("set", 1, 1), ("set", "x", None),
            ("set", "x", [1]), ("set", "x", ("add", 1)), ("set", "x", ("neg", 1)), ("if", "ok", ()), ("if", "ok", [], ()),
            ("if", "ok", (), None), ("match", "c", ()), ("match", "c", [("Red", (), ())]), ("match", "c", (["Red", (), ()],)),
            ("match", "c", (("red", (), ()),)), ("match", "c", (("Red", [], ()),)), ("match", "c", (("Red", (), []),)),
            ("match", "c", (("Red", (1,), ()),)), ("match", "c", (("Red", (), ()),) * 7), ("match", "c", (("Red", ()),)),
            ("loop", "", 0, ()), ("loop", "", 10, ()), ("loop", "", True, ()), ("loop", "", "n", ()), ("loop", "", 3),
            ("loop", "0", 3, ()), ("loop", "100", 3, ()), ("loop", None, 3, ()), ("loop", 1, 3, ()), ("loop", "", 3, []),
            ("break", 1), ("break",) * 2, ("return",), ("return", "Red"), ("return", 10 ** 250), ("raise", "Dear"), ("raise",),
            ("try", "", (), ()), ("try", "", (), (("dear", ()),) * 2), ("try", "", (), (("Dear", ()),)),
            ("try", "", (), tuple(("e" + one, ()) for one in "abcd")), ("try", "", (), (("dear", []),)),
            ("try", "", (), (("dear", (), ()),)), ("try", "", (), (("dear",),)), ("try", "", (), (("dear", ()), 5)),
            ("try", "", (), (["dear", ()],)), ("try", "", (), [("dear", ())]), ("try", "", [], (("dear", ()),)),
            ("call", "", "x", "f", [1]), ("call", "", "x", "F", ()), ("call", "", 1, "f", ()), ("call", "x", "f", ()),
            ("call", "", "x", "f", (None,)), ("ask", "", "x", "price", 1), ("ask", "", "x", 1, ()), ("ask", "", "x", "price"),
            ("send", "", ("self",), "num"), ("send", "", None, "num", 1), ("send", "", ("self",), "Num", 1),
            ("receive", "", "x"), ("receive", "", "x", 1), ("sleep", "", None), ("sleep", "A", 1), ("sleep", 1),
            ("start", "", "t", "run", None), ("start", "", "t", 1, ()), ("both", "", ()), ("both", "", (), [], ()),
            ("both", "", (), None), ("since", "", (), [1]), ("since", ""), ("become", "run"), ("become", "run", [1]),
            ("become", 1, ()), ("tag", "Red"), ("unless", 1), ("", 1), ("Set", "x", 1),
        ):
            self.in_body("form", statement)

    def test_levels(self):
        expression = "n"
        for _ in range(4):
            expression = ("add", 1, expression)
        version_with(("set", "x", expression))
        self.in_body("form", ("set", "x", ("add", 1, expression)))
        self.in_body("form", ("return", ("add", expression, 1)))
        self.in_body("form", ("ask", "", "x", "price", (("add", expression, 1),)))

    def test_behind(self):
        for last in (("return", 1), ("raise", "dear")):
            version_with(last)
            self.in_body("behind", last, SLEEP)
            self.in_body("behind", ("if", "ok", (last, SLEEP), ()))
            version_with(("if", "ok", (last,), (last,)), SLEEP)
        version_with(ASK, ("become", "run", (1,)))
        self.in_body("behind", ASK, ("become", "run", (1,)), SLEEP)
        self.in_body("behind", ("loop", "", 2, (("break",), SLEEP)))
        self.in_body("form", ("return", 1), ("sleep", "", None))
        self.in_body("behind", ("return", 1), ("sleep", "", True))

    def test_how_many_in_a_body(self):
        version_with(*[SLEEP] * 12)
        self.in_body("limit", *[SLEEP] * 13)
        version_with(("if", "ok", (SLEEP,) * 12, (SLEEP,) * 12))
        self.in_body("limit", ("if", "ok", (), (SLEEP,) * 13))
        self.in_body("limit", ("loop", "", 2, (5,) * 13))
        self.in_body("limit", ("match", "c", (("Red", (), ()), ("Mix", ("x", "t"), (SLEEP,) * 13))))
        self.in_body("limit", ("try", "", (), (("dear", (SLEEP,) * 13),)))
        self.in_body("limit", 5, *[SLEEP] * 12)
        self.in_body("behind", ("return", 1), ("loop", "", 2, (SLEEP,) * 13))

    def test_forty_and_forty_one_statements(self):
        twelve = (SLEEP,) * 12
        three = [("loop", "", 2, twelve)] * 3
        version_with(*three, SLEEP)
        self.in_body("limit", *three, SLEEP, SLEEP)
        self.in_body("limit", *three, SLEEP, ("sleep", "", True))
        self.in_body("form", *three, SLEEP, ("sleep", "", None))
        self.in_body("limit", *three, ("if", "ok", (SLEEP,), ()))

    def test_bodies_within_each_other(self):
        heads = (
            lambda body: ("if", "ok", (), body), lambda body: ("loop", "", 2, body),
            lambda body: ("both", "", body, ()), lambda body: ("since", "", (), body),
            lambda body: ("try", "", (), (("dear", body),)),
            lambda body: ("match", "c", (("Red", (), body), ("Mix", ("x", "t"), ()))),
        )
        for head in heads:
            body = (SLEEP,)
            for _ in range(4):
                body = (head(body),)
            version_with(*body)
            self.in_body("limit", head(body))
            self.in_body("limit", ("loop", "", 2, (("loop", "", 2, (("loop", "", 2, (("loop", "", 2, (head(()),)),)),)),)))

    def test_labels(self):
        version_with(("sleep", "a", 1), ("sleep", "", 1), ("sleep", "", 1), ("sleep", "2", 1))
        self.in_body("label", ("sleep", "a", 1), ("sleep", "a", 1))
        self.in_body("label", ("sleep", "1", 1), ("loop", "2", 2, (("sleep", "1", 1),)))
        self.in_body("label", ("loop", "l", 2, (("sleep", "l", 1),)))
        self.in_body("label", ("if", "ok", (("sleep", "a", 1),), (("both", "a", (), ()),)))
        version_of(function("one", ("sleep", "a", 1)), function("two", ("sleep", "a", 1)))
        self.in_body("limit", ("sleep", "a", 1), ("loop", "a", 2, (SLEEP,) * 13))
        self.in_body("label", ("loop", "l", 2, ()), ("both", "l", (), (("return", 1),)))

    def test_leave(self):
        self.in_body("leave", ("break",))
        self.in_body("leave", ("if", "ok", (("break",),), ()))
        version_with(("loop", "", 2, (("if", "ok", (("break",),), ()),)))
        for word in ("both",):
            self.in_body("leave", ("loop", "", 2, ((word, "", (("break",),), ()),)))
            self.in_body("leave", ("loop", "", 2, ((word, "", (), (("if", "ok", (("break",),), ()),)),)))
            self.in_body("leave", (word, "", (("return", 1),), ()))
            self.in_body("leave", (word, "", (), (("loop", "", 2, (("return", 1),)),)))
            self.in_body("leave", ASK, (word, "", (("become", "run", (1,)),), ()))
            version_with((word, "", (("loop", "", 2, (("break",),)),), (("raise", "dear"),)))
        self.in_body("leave", ("both", "", (("both", "", (("return", 1),), ()),), ()))
        version_with(("since", "", (("return", 1),), (("return", 2),)))
        self.in_body("leave", ("both", "", (("return", True),), ()))
        self.in_body("leave", ("break",), 5)

    def test_a_call_of_a_function_that_becomes(self):
        one = function("one", ASK, ("become", "one", (1,)))
        two = function("two", ("call", "", "x", "one", (1,)))
        self.in_functions("leave", "two", one, two)
        self.in_functions("leave", "two", one, function("two", ("call", "", "nope", "one", ())))
        version_of(one, function("two", ("start", "", "t", "one", (1,))))

    def test_unknown(self):
        self.in_body("unknown", ("set", "z", 1))
        self.in_body("unknown", ("set", "x", "z"))
        self.in_body("unknown", ("set", "x", ("add", 1, ("mul", "z", 2))))
        self.in_body("unknown", ("set", "c", ("tag", "Blue")))
        self.in_body("unknown", ("if", "z", (), ()))
        self.in_body("unknown", ("match", "z", (("Red", (), ()),)))
        self.in_body("unknown", ("match", "c", (("Blue", (), ()), ("Mix", ("x", "t"), ()))))
        self.in_body("unknown", ("match", "c", (("Red", (), ()), ("Mix", ("z", "t"), ()))))
        self.in_body("unknown", ("return", "z"))
        self.in_body("unknown", ("call", "", "x", "nope", ()))
        self.in_body("unknown", ("call", "", "x", "run", (1,)))
        self.in_body("unknown", ("call", "", "x", "price", (1,)))
        self.in_body("unknown", ("ask", "", "x", "nope", ()))
        self.in_body("unknown", ("ask", "", "z", "price", (1,)))
        self.in_body("unknown", ("ask", "", "x", "price", ("z",)))
        self.in_body("unknown", ("ask", "", "x", "paid", (1,)))
        self.in_body("unknown", ("send", "", "z", "num", 1))
        self.in_body("unknown", ("send", "", "t", "nope", 1))
        self.in_body("unknown", ("send", "", "t", "price", 1))
        self.in_body("unknown", ("send", "", "t", "num", "z"))
        self.in_body("unknown", ("receive", "", "x", "nope"))
        self.in_body("unknown", ("receive", "", "z", "num"))
        self.in_body("unknown", ("sleep", "", "z"))
        self.in_body("unknown", ("start", "", "z", "run", (1,)))
        self.in_body("unknown", ("start", "", "t", "run", ("z",)))
        self.in_body("unknown", ASK, ("become", "run", ("z",)))
        self.in_body("unknown", ("set", "x", ("add", True, "z")))

    def test_only_what_is_visible(self):
        base = module(function("help"), name="base")
        inner = (("x", "int"),)
        for body in ((("ask", "", "x", "price", (1,)),), (("receive", "", "x", "num"),), (("call", "", "x", "help", (1,)),),
                     (("set", "x", ("tag", "Red")),)):
            more = ("more", (), (), (), (), (("run", (), inner, "int", body),))
            self.refused([base, more], "unknown", "run")
            if body[0][0] != "set":
                Version([base, ("more", ("base",), (), (), (), (("run", (), inner, "int", body),))])
        self.in_functions("unknown", "run", function("run", ("call", "", "x", "later", (1,))), function("later"))
        start = ("more", (), (), (), (), (("run", (), (("t", "task"),), "int", (("start", "", "t", "help", (1,)),)),))
        Version([base, start])

    def test_kind_of_expressions(self):
        for expression in (
            True, ("self",), "ok", "t", "c", ("tag", "Red"), ("add", True, 1), ("sub", 1, "ok"), ("mul", "t", 1), ("div", "c", 1),
            ("mod", 1, False), ("less", 1, 2), ("not", "ok"), ("add", 1, ("not", 1)), ("same", 1, 1),
        ):
            self.in_body("kind", ("set", "x", expression))
        for expression in (1, ("less", True, 1), ("less", 1, "c"), ("same", 1, True), ("same", "t", "c"), ("and", 1, True),
                           ("or", True, "x"), ("not", 1), ("same", ("add", True, 1), ("add", True, 1))):
            self.in_body("kind", ("set", "ok", expression))
        for expression in (("tag", "Red", 1), ("tag", "Mix"), ("tag", "Mix", 1), ("tag", "Mix", ("self",), 1),
                           ("tag", "Mix", 1, ("self",), 1), 1, "t"):
            self.in_body("kind", ("set", "c", expression))
        version_with(("set", "c", ("tag", "Mix", ("add", 1, "x"), "t")), ("set", "ok", ("same", "c", ("tag", "Red"))),
                     ("set", "no", ("same", "t", ("self",))), ("set", "ok", ("same", "ok", ("not", "no"))))

    def test_kind_of_statements(self):
        for statement in (
            ("if", "x", (), ()), ("if", 1, (), ()), ("match", "x", (("Red", (), ()),)), ("match", "ok", (("Red", (), ()),)),
            ("return", True), ("return", "c"), ("ask", "", "ok", "price", (1,)), ("ask", "", "x", "price", (True,)),
            ("ask", "", "x", "price", ()), ("ask", "", "x", "price", (1, 2)), ("send", "", "x", "num", 1),
            ("send", "", "t", "num", True), ("receive", "", "x", "paid"), ("receive", "", "c", "num"), ("sleep", "", "ok"),
            ("sleep", "", ("self",)), ("start", "", "x", "run", (1,)), ("match", ("tag", "Mix", 1), (("Red", (), ()),)),
        ):
            self.in_body("kind", statement)
        one = function("one", result="bool")
        for statement in (("call", "", "x", "one", (1,)), ("call", "", "ok", "one", (True,)), ("call", "", "ok", "one", ()),
                          ("call", "", "ok", "one", (1, 1))):
            self.in_functions("kind", "two", one, function("two", statement))
        version_of(one, function("two", ("call", "", "ok", "one", (1,))))

    def test_cases(self):
        red, mix = ("Red", (), ()), ("Mix", ("x", "t"), ())
        version_with(("match", "c", (red, mix)))
        for cases in ((red,), (mix,), (mix, red), (red, red), (red, mix, mix), (red, ("Mix", ("x",), ())), (red, ("Mix", (), ())),
                      (red, ("Mix", ("t", "x"), ())), (red, ("Mix", ("x", "t", "y"), ())), (("Red", ("x",), ()), mix)):
            self.in_body("kind", ("match", "c", cases))
        for count in (1, 6):
            kind = ("many", tuple(("A" + letter, ()) for letter in LETTERS[:count]))
            match = ("match", "v", tuple((tag, (), ()) for tag, _ in kind[1]))
            Version([("shop", (), (kind,), (), (), (("run", (("v", "many"),), (), "int", (match,)),))])
        twin = ("twin", (("Two", ("int", "int")),))
        run = ("run", (("v", "twin"),), (("x", "int"), ("y", "int")), "int", (("match", "v", (("Two", ("x", "x"), ()),)),))
        self.refused([("shop", (), (twin,), (), (), (run,))], "kind", "run")

    def test_each_statement_before_its_bodies(self):
        self.in_body("kind", ("if", 1, (5,), ()))
        self.in_body("form", ("if", "ok", (), (5,)), ("sleep", "", True))
        self.in_body("kind", ("if", "ok", (("sleep", "", True),), (5,)))
        self.in_body("kind", ("loop", "", 2, (("if", "ok", (), (("sleep", "", True),)),)), 5)
        self.in_body("unknown", ("both", "", (("set", "x", 1),), (("set", "x", "z"),)))

    def test_shared(self):
        one, other = ("set", "x", 1), ("set", "y", "x")
        for ours, theirs in ((one, one), (one, other), (other, one), (one, ("sleep", "", "x")),
                             (("if", "ok", (one,), ()), ("loop", "", 2, (other,))),
                             (one, ("ask", "", "y", "price", ("x",))), (one, ("receive", "", "x", "num")),
                             (ASK, ("send", "", "t", "num", ("add", 1, "x"))),
                             (("match", "c", (("Red", (), ()), ("Mix", ("x", "t"), ()))), other),
                             (("set", "y", 1), ("match", ("tag", "Mix", "y", "t"), (("Red", (), ()), ("Mix", ("x", "t"), ())))),
                             (("start", "", "t", "run", (1,)), ("send", "", "t", "num", 1)),
                             (("both", "", (one,), ()), one)):
            self.in_body("shared", SLEEP, ("both", "", (ours,), (theirs,)))
            self.in_body("shared", SLEEP, ("both", "", (theirs,), (ours,)))
        version_with(("both", "", (("set", "x", "n"),), (("set", "y", "n"),)), ("set", "x", "y"))
        version_with(("both", "", (("sleep", "", "x"),), (("sleep", "", "x"),)))
        self.in_body("shared", ("loop", "", 2, (("try", "", (("both", "", (one,), (one,)),), (("dear", ()),)),)))

    def test_shared_comes_behind_all_statements_of_the_function(self):
        both = ("both", "", (("set", "x", 1),), (("set", "x", 1),))
        self.in_body("kind", both, ("sleep", "", True))
        self.in_functions("shared", "one", function("one", both), function("two", 5))
        self.in_functions("form", "one", function("one", 5), function("two", both))


class GoingOnTest(RefusalTest):
    def test_unknown_and_kind_come_behind_all_modules(self):
        bad = function("one", ASK, ("start", "", "t", "nope", (1,)))
        self.in_functions("unknown", "one", bad, function("two"))
        self.in_functions("form", "two", bad, function("two", 5))
        self.in_functions("shared", "two", bad, function("two", ("both", "", (("set", "x", 1),), (("set", "x", 1),))))
        self.refused([module(bad), 5], "form", None)
        self.in_functions("kind", "one", function("one", ASK, ("start", "", "t", "one", (True,))), function("two"))
        self.in_functions("form", "two", function("one", ASK, ("become", "one", (True,))), function("two", 5))

    def test_their_args_are_judged_only_there(self):
        for wrong in ((), (1, 2), (True,), (("add", True, 1),), (("tag", "Red"),), (("tag", "Mix"),)):
            for word in (("start", "", "t", "run", wrong), ("become", "run", wrong)):
                self.in_body("kind", ASK, word)
                self.in_functions("unknown", "two", function("one", ASK, (*word[:-2], "one", wrong)),
                                  function("two", ("set", "z", 1)))

    def test_any_function_may_be_started(self):
        later = ("later", (), (), (), (), (("more", (), (), "int", ()),))
        Version([module(function("run", ("start", "", "t", "more", ()))), later])
        self.refused([module(function("run", ("start", "", "t", "more", (1,)))), later], "kind", "run")
        self.refused([module(function("run", ("start", "", "t", "price", (1,)))), later], "unknown", "run")
        Version([module(function("run", SLEEP, ("become", "more", ()))), later])

    def test_order(self):
        one = function("one", ("start", "", "t", "one", (1,)), ("start", "", "t", "nope", ()))
        self.in_functions("endless", "one", one)
        two = function("two", ("start", "", "t", "nope", ()), ("start", "", "t", "two", (1,)))
        self.in_functions("unknown", "two", two)
        three = function("three", ("if", "ok", (("start", "", "t", "three", (True,)),), ()), ("start", "", "t", "nope", ()))
        self.in_functions("kind", "three", three)
        self.in_functions("endless", "one", one, two)
        self.in_functions("unknown", "two", two, one)

    def test_endless_start(self):
        again = ("start", "", "t", "run", (1,))
        self.in_body("endless", again)
        for pause in (ASK, SLEEP, ("receive", "", "x", "num")):
            version_with(pause, again)
            version_with(pause, ("loop", "", 2, (("if", "ok", (again,), ()),)))
            version_with(("loop", "", 2, (pause, ("if", "ok", (), (again,)))))
            self.in_body("endless", again, pause)
            self.in_body("endless", ("if", "ok", (pause,), (pause,)), again)
            self.in_body("endless", ("if", "ok", (pause,), (again,)))
            self.in_body("endless", ("both", "", (pause,), (again,)))
            self.in_body("endless", ("loop", "", 2, (again, pause)))
        self.in_body("endless", ("send", "", "t", "num", 1), again)

    def test_endless_only_if_it_leads_back(self):
        version_of(function("one"), function("two", ("start", "", "t", "one", (1,))))
        one = function("one", ("start", "", "t", "two", (1,)))
        self.in_functions("endless", "one", one, function("two", ("start", "", "t", "one", (1,))))
        self.in_functions("endless", "one", one, function("two", ASK, ("start", "", "t", "one", (1,))))
        self.in_functions("endless", "one", one, function("two", ASK, ("become", "one", (1,))))
        self.in_functions("endless", "one", one, function("two", ("call", "", "x", "one", (1,))))
        version_of(function("one", ASK, ("start", "", "t", "two", (1,))), function("two", ("call", "", "x", "one", (1,))))
        version_of(one, function("two", ("start", "", "t", "three", (1,))), function("three"))
        self.in_functions("endless", "one", one, function("two", ASK, ("start", "", "t", "three", (1,))),
                          function("three", ("call", "", "x", "one", (1,))))

    def test_endless_become(self):
        self.in_functions("endless", "two", function("one"), function("two", ("become", "one", (1,))))
        version_of(function("one"), function("two", SLEEP, ("become", "one", (1,))))
        self.in_body("endless", ("become", "run", (1,)))
        self.in_body("endless", ("if", "ok", (SLEEP,), (("become", "run", (1,)),)))
        version_with(("if", "ok", (SLEEP, ("become", "run", (1,))), ()))
        version_with(SLEEP, ("if", "ok", (("become", "run", (1,)),), ()))


class EdgesTest(RefusalTest):
    def test_functions_use_everything_that_is_visible(self):
        base = module(function("help"), name="base")
        run = ("run", (), (("x", "int"), ("c", "color"), ("t", "task")), "color",
               (("call", "", "x", "help", (1,)), ("ask", "", "c", "pick", ()), ("send", "", ("self",), "hue", "c"),
                ("match", "c", (("Red", (), ()), ("Mix", ("x", "t"), ()))), ("return", ("tag", "Mix", "x", "t"))))
        Version([base, ("more", ("base",), (), (), (), (run,))])

    def test_names_of_variables_may_be_those_of_other_things(self):
        Version([("shop", (), (), (("x", (), "int"),), (), (("run", (("x", "int"),), (), "int",
                                                            (("ask", "x", "x", "x", ()), ("raise", "x"))),))])
