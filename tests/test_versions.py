"""heldover.versions: what a version tells, and effects."""

import unittest

from heldover.errors import InvalidText, InvalidVersion, UnknownName
from heldover.texts import modules_text
from heldover.values import Kinds
from heldover.versions import Version
from tests.anything import ODD
from tests.programs import random_version
from tests.samples import COLOR, DOORS, KEYS, VARIABLES, function, module, version_of, version_with
from tests.test_texts import EXAMPLE

ASK = ("ask", "", "x", "price", (1,))


class VersionTest(unittest.TestCase):
    def setUp(self):
        self.help = function("help", ("sleep", "", 1), ("return", "n"))
        self.run = function("run", ("call", "", "x", "help", (1,)), ("sleep", "2", 1), params=(), result="color")
        self.base = module(self.help, name="base")
        self.shop = ("shop", ("base",), (("pair", (("Two", ("color",)),)),), (("pay", ("pair",), "pair"),), (("own", "pair"),),
                     (self.run,))
        self.version = Version([self.base, self.shop])

    def test_the_example(self):
        body = (("ask", "", "x", "price", ("n",)), ("if", ("less", "x", 10), (("return", "x"),), (("raise", "dear"),)))
        buy = ("buy", (("n", "int"),), (("x", "int"),), "int", body)
        shop = ("shop", (), (("color", (("Red", ()), ("Mix", ("int", "task")))),), (("price", ("int",), "int"),),
                (("orders", "color"),), (buy,))
        self.assertEqual(str(Version([shop])), EXAMPLE)
        self.assertEqual(Version.read(EXAMPLE), Version([shop]))

    def test_modules_have_labels(self):
        found = self.version.modules()
        self.assertEqual(found[0][5][0][4], (("sleep", "1", 1), ("return", "n")))
        self.assertEqual(found[1][5][0][4], (("call", "1", "x", "help", (1,)), ("sleep", "2", 1)))
        self.assertEqual(found[1][:5], self.shop[:5])
        self.assertEqual(Version(tuple(found)), self.version)

    def test_function_and_signature(self):
        self.assertEqual(self.version.names(), ["help", "run"])
        self.assertEqual(self.version.function("help"), ("help", (("n", "int"),), VARIABLES, "int",
                                                         (("sleep", "1", 1), ("return", "n"))))
        self.assertEqual(self.version.signature("help"), (("int",), "int"))
        self.assertEqual(self.version.signature("run"), ((), "color"))

    def test_doors_keys_kinds(self):
        self.assertEqual(self.version.door("price"), (("int",), "int"))
        self.assertEqual(self.version.door("pay"), (("pair",), "pair"))
        self.assertEqual(self.version.key("paid"), "bool")
        self.assertEqual(self.version.key("own"), "pair")
        self.assertEqual(self.version.kinds(), Kinds([COLOR, ("pair", (("Two", ("color",)),))]))

    def test_len_in_equal_str_repr(self):
        self.assertEqual(len(self.version), 2)
        self.assertIs("run" in self.version, True)
        for value in (*ODD, "price", "shop", "color", "nope"):
            self.assertIs(value in self.version, False)
        self.assertEqual(self.version, Version([self.base, self.shop]))
        labelled = function("help", ("sleep", "1", 1), ("return", "n"))
        self.assertEqual(self.version, Version([module(labelled, name="base"), self.shop]))
        other = function("help", ("sleep", "7", 1), ("return", "n"))
        self.assertNotEqual(self.version, Version([module(other, name="base"), self.shop]))
        self.assertNotEqual(self.version, str(self.version))
        self.assertNotEqual(self.version, self.version.modules())
        self.assertEqual(str(self.version), modules_text(self.version.modules()))
        self.assertEqual(repr(self.version), "Version(['help', 'run'])")
        self.assertEqual(repr(Version([("m", (), (), (), (), ())])), "Version([])")

    def test_unknown_names(self):
        version = self.version
        for value in (*ODD, "nope", "Red", "shop"):
            for call in (version.function, version.signature, version.effects, version.to_come, version.door, version.key):
                with self.assertRaises(UnknownName) as caught:
                    call(value)
                self.assertIs(caught.exception.name, value)
        self.assertRaises(UnknownName, version.door, "paid")
        self.assertRaises(UnknownName, version.key, "price")
        self.assertRaises(UnknownName, version.function, "price")

    def test_read_back(self):
        for seed in range(40):
            version = random_version(seed)
            self.assertEqual(Version.read(str(version)), version)
            self.assertEqual(Version.read(text=str(version)).modules(), version.modules())

    def test_read_raises(self):
        with self.assertRaises(InvalidText) as caught:
            Version.read(EXAMPLE + "x\n")
        self.assertEqual(caught.exception.line, 12)
        with self.assertRaises(InvalidText):
            Version.read(None)
        with self.assertRaises(InvalidVersion) as refused:
            Version.read("")
        self.assertEqual((refused.exception.problem, refused.exception.name), ("modules", None))
        with self.assertRaises(InvalidVersion) as refused:
            Version.read(EXAMPLE.replace("return x", "return true"))
        self.assertEqual((refused.exception.problem, refused.exception.name), ("kind", "buy"))

    def test_changes_have_no_effect(self):
        modules = [self.base, self.shop]
        version = Version(modules)
        modules.append(5)
        text = str(version)
        for found in (version.modules(), version.names(), version.effects("run"), version.to_come("run")):
            found.append("x")
            found.reverse()
        self.assertEqual(str(version), text)
        self.assertEqual(version.names(), ["help", "run"])
        self.assertEqual(version.effects("run"), [("sleep",)])
        self.assertEqual(version.to_come("run"), [("sleep",)])
        self.assertEqual(modules[:2], [self.base, self.shop])

    def test_by_name(self):
        version = Version(modules=[self.base])
        self.assertEqual(version.function(name="help"), version.function("help"))
        self.assertEqual(version.effects(name="help"), [("sleep",)])
        self.assertEqual(version.door(name="price"), DOORS[0][1:])
        self.assertEqual(version.key(name="paid"), KEYS[0][1])


class EffectsTest(unittest.TestCase):
    def effects(self, *body):
        return version_with(*body).effects("run")

    def test_each_sort(self):
        self.assertEqual(self.effects(), [])
        self.assertEqual(self.effects(ASK), [("ask", "price")])
        self.assertEqual(self.effects(("send", "", ("self",), "num", 1)), [("send", "num")])
        self.assertEqual(self.effects(("receive", "", "ok", "paid")), [("receive", "paid")])
        self.assertEqual(self.effects(("sleep", "", 1)), [("sleep",)])
        self.assertEqual(self.effects(ASK, ("start", "", "t", "run", (1,))), [("ask", "price"), ("start", "run")])
        self.assertEqual(self.effects(ASK, ("become", "run", (1,))), [("ask", "price"), ("become", "run")])
        self.assertEqual(self.effects(("raise", "dear")), [("raise", "dear")])
        self.assertEqual(self.effects(("set", "x", 1), ("loop", "", 2, (("break",),)), ("return", 1)), [])

    def test_sorted_and_each_once(self):
        self.assertEqual(
            self.effects(("sleep", "", 1), ("if", "ok", (ASK, ("raise", "late")), (("sleep", "", 2), ("raise", "dear"))), ASK,
                         ("start", "", "t", "run", (1,)), ("send", "", "t", "num", 1), ("receive", "", "x", "num")),
            [("ask", "price"), ("raise", "dear"), ("raise", "late"), ("receive", "num"), ("send", "num"), ("sleep",),
             ("start", "run")],
        )

    def test_errors_with_a_handler(self):
        fail = ("raise", "dear")
        self.assertEqual(self.effects(("try", "", (fail,), (("dear", ()),))), [])
        self.assertEqual(self.effects(("try", "", (fail,), (("late", ()),))), [("raise", "dear")])
        self.assertEqual(self.effects(("try", "", (), (("dear", (fail,)),))), [("raise", "dear")])
        self.assertEqual(self.effects(("try", "", (("if", "ok", (fail,), ()),), (("late", ()), ("dear", ())))), [])
        self.assertEqual(self.effects(("try", "", (("both", "", (fail,), ()),), (("dear", ()),))), [])
        self.assertEqual(
            self.effects(("try", "", (("try", "", (("raise", "late"),), (("late", (fail,)),)),), (("dear", ()),))), [])
        self.assertEqual(self.effects(("try", "", (fail,), (("dear", ()),)), fail), [("raise", "dear")])
        outer = ("try", "", (("try", "", (fail,), (("late", ()),)),), (("dear", (("raise", "gone"),)),))
        self.assertEqual(self.effects(outer), [("raise", "gone")])

    def test_through_calls(self):
        one = function("one", ASK, ("raise", "dear"))
        two = function("two", ("call", "", "x", "one", (1,)), ("sleep", "", 1))
        three = function("three", ("try", "", (("call", "", "x", "two", (1,)),), (("dear", (("raise", "late"),)),)))
        four = function("four", ("try", "", (), (("dear", (("call", "", "x", "two", (1,)),)),)))
        version = version_of(one, two, three, four)
        self.assertEqual(version.effects("two"), [("ask", "price"), ("raise", "dear"), ("sleep",)])
        self.assertEqual(version.effects("three"), [("ask", "price"), ("raise", "late"), ("sleep",)])
        self.assertEqual(version.effects("four"), [("ask", "price"), ("raise", "dear"), ("sleep",)])

    def test_to_come(self):
        one = function("one", ASK, ("become", "three", (1,)))
        two = function("two", ("sleep", "", 1), ("raise", "dear"))
        three = function("three", ("call", "", "x", "two", (1,)), ("receive", "", "x", "num"), ("start", "", "t", "one", (1,)))
        four = function("four", ("send", "", "t", "num", 1))
        version = version_of(one, two, three, four)
        everything = [("ask", "price"), ("become", "three"), ("receive", "num"), ("sleep",), ("start", "one")]
        self.assertEqual(version.effects("one"), [("ask", "price"), ("become", "three")])
        self.assertEqual(version.effects("three"), [("raise", "dear"), ("receive", "num"), ("sleep",), ("start", "one")])
        self.assertEqual(version.to_come("one"), everything)
        self.assertEqual(version.to_come("three"), everything)
        self.assertEqual(version.to_come("two"), [("sleep",)])
        self.assertEqual(version.to_come("four"), [("send", "num")])
