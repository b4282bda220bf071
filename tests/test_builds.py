"""heldover.builds: keys, builds, and what of them can stay."""

import unittest
from random import Random

from heldover.builds import Build, unit_key
from heldover.errors import InvalidVersion, UnknownName
from heldover.judge import judge
from heldover.pipelines import Pipeline, optimized
from heldover.stories import strictly_equal
from heldover.versions import Version
from tests.anything import ODD
from tests.programs import random_start, random_version
from tests.samples import COLOR, DOORS, KEYS, function, module, version_of
from tests.watching import first_wrong, stories

PAIR = ("pair", (("Two", ("color", "bool")),))
HIGH = ("high", (("Top", ("pair",)), ("Low", ())))
OTHER = ("other", (("Any", ("int",)),))
SLEEP = ("sleep", "s", 1)


def fun(name, *body, params=(), inner=(("x", "int"), ("ok", "bool"), ("t", "task")), result="int"):
    return (name, params, inner, result, body)


def call(label, name, *args):
    return ("call", label, "x", name, args)


def shop(*functions, kinds=(COLOR, PAIR, HIGH, OTHER), doors=DOORS, keys=KEYS):
    return Version([("shop", (), kinds, doors, keys, functions)])


class KeyTest(unittest.TestCase):
    def setUp(self):
        self.low = fun("low", ("raise", "dear"))
        self.mid = fun("mid", ("if", "ok", (("raise", "late"),), (("raise", "dear"),)), params=(("n", "int"), ("c", "color")))
        self.kid = fun("kid", SLEEP, ("raise", "gone"), params=(("h", "high"),), result="bool")

    def test_texts(self):
        version = shop(self.low, self.mid, fun("run", ("sleep", "", 1)))
        self.assertEqual(unit_key(version=version, function="run"), ((fun("run", ("sleep", "1", 1)),), (), (), (), ()))
        texts = unit_key(version, "run", ("mid", "low"))[0]
        self.assertEqual(texts, (self.low, self.mid, version.function("run")))
        for inlined in (["low", "mid"], ("low", "mid", "low"), ("run", "mid", "low")):
            self.assertEqual(unit_key(version, "run", inlined=inlined)[0], texts)

    def test_signatures(self):
        version = shop(self.low, self.mid, self.kid, fun("run", call("a", "low"), ("try", "y", (call("b", "mid", 1, ("tag", "Red")),), (("late", ()),)), SLEEP,
                                                         ("start", "k", "t", "kid", (("tag", "Low"),)), ("become", "kid", (("tag", "Low"),))))
        key = unit_key(version, "run")
        self.assertEqual(key[1], (("kid", ("high",), "bool", ()), ("low", (), "int", ("dear",)), ("mid", ("int", "color"), "int", ("dear", "late"))))
        # Of a function that is inlined, those to which it leads, too; errors of one that is called and started.
        version = shop(self.low, fun("deep", call("a", "low")), fun("run", call("b", "deep"), SLEEP, ("start", "k", "t", "low", ())))
        self.assertEqual(unit_key(version, "run")[1], (("deep", (), "int", ("dear",)), ("low", (), "int", ())))
        self.assertEqual(unit_key(version, "run", ["deep"])[1], (("deep", (), "int", ("dear",)), ("low", (), "int", ("dear",))))

    def test_doors_and_keys(self):
        version = shop(fun("run", ("ask", "a", "x", "price", (1,)), ("ask", "b", "ok", "flag", ()), ("ask", "c", "x", "price", (2,)), ("send", "d", "t", "paid", "ok"),
                           ("receive", "e", "x", "num"), ("receive", "f", "ok", "paid")))
        self.assertEqual(unit_key(version, "run")[2:4], ((("flag", (), "bool"), ("price", ("int",), "int")), (("num", "int"), ("paid", "bool"))))
        names = ("zoo", "eel", "ant", "cow", "bee", "dog")
        version = shop(fun("run", *[("ask", name, "x", name, ()) for name in names]), doors=tuple((name, (), "int") for name in names))
        self.assertEqual(unit_key(version, "run")[2], tuple((name, (), "int") for name in sorted(names)))
        for send in (True, False):
            found = [("send", name, "t", name, "x") if send else ("receive", name, "x", name) for name in names]
            version = shop(fun("run", *found), keys=tuple((name, "int") for name in names))
            self.assertEqual(unit_key(version, "run")[2:4], ((), tuple((name, "int") for name in sorted(names))))

    def test_kinds(self):
        for wanted, one in (
            ((), fun("run")), ((COLOR,), fun("run", params=(("c", "color"),))), ((COLOR, PAIR), fun("run", inner=(("p", "pair"),))),
            ((COLOR, HIGH, PAIR), fun("run", result="high")), ((OTHER,), fun("run", ("if", ("same", ("tag", "Any", 1), ("tag", "Any", 2)), (), ()))),
            ((COLOR,), fun("run", ("match", ("tag", "Red"), (("Red", (), ()), ("Mix", ("x", "t"), ()))))), ((COLOR,), fun("run", ("send", "m", "t", "hue", ("tag", "Red")))),
            ((OTHER,), fun("run", ("ask", "a", "x", "odd", ()))), ((COLOR, OTHER), fun("run", ("ask", "a", "x", "odd", ()), ("send", "m", "t", "hue", ("tag", "Red")))),
        ):
            doors = (*DOORS[:2], ("odd", (), "int")) if wanted[-1:] != (OTHER,) or one[4][0][0] == "if" else (*DOORS[:2], ("odd", (), "other"))
            if one[4] and one[4][0][0] == "ask":
                one = (one[0], one[1], (("x", "other"), *one[2][1:]), *one[3:])
            self.assertEqual(unit_key(shop(one, doors=doors), "run")[4], wanted, one)
        # By one of its tags alone.
        for tag in (("tag", "Red"), ("tag", "Mix", 1, "t")):
            self.assertEqual(unit_key(shop(fun("run", ("if", ("same", tag, tag), (), ()))), "run")[4], (COLOR,))
        # By fields of doors, by signatures, and by keys.
        version = shop(fun("run", ("ask", "a", "x", "give", (("tag", "Low"),))), doors=(("give", ("high",), "int"),))
        self.assertEqual(unit_key(version, "run")[4], (COLOR, HIGH, PAIR))
        version = shop(fun("deep", params=(("o", "other"),)), fun("run", call("a", "deep", ("tag", "Any", 1))))
        self.assertEqual(unit_key(version, "run")[4], (OTHER,))
        version = shop(fun("deep", result="other", inner=()), fun("run", ("call", "a", "o", "deep", ()), inner=(("o", "other"),)))
        self.assertEqual(unit_key(version, "run")[4], (OTHER,))
        for leading in (("start", "k", "t", "deep", ()), ("become", "deep", ())):
            version = shop(fun("deep", result="other", inner=()), fun("run", SLEEP, leading))
            self.assertEqual(unit_key(version, "run")[4], (OTHER,))
        version = shop(fun("run", ("receive", "r", "p", "pay"), inner=(("p", "pair"),)), keys=(("pay", "pair"),))
        self.assertEqual(unit_key(version, "run")[4], (COLOR, PAIR))

    def test_what_makes_no_difference(self):
        one = shop(self.low, fun("run", call("a", "low")), fun("last"))
        for two in (
            Version([("base", (), (OTHER,), (), (), (fun("low", SLEEP, ("raise", "dear")),)), ("shop", ("base",), (COLOR,), DOORS, KEYS, (fun("run", call("a", "low")),))]),
            shop(fun("low", ("set", "x", 3), ("raise", "dear")), fun("run", call("a", "low"))),
        ):
            self.assertEqual(unit_key(one, "run"), unit_key(two, "run"))
            self.assertNotEqual(unit_key(one, "run", ["low"]), unit_key(two, "run", ["low"]))
        for two in (shop(fun("low", ("raise", "late")), fun("run", call("a", "low"))), shop(fun("low"), fun("run", call("a", "low"))),
                    shop(self.low, fun("run", call("b", "low")))):
            self.assertNotEqual(unit_key(one, "run"), unit_key(two, "run"))

    def test_errors(self):
        version = shop(self.low, fun("run"))
        for odd in (*ODD, "nope"):
            with self.assertRaises(UnknownName) as caught:
                unit_key(version, odd, [odd])
            self.assertIs(caught.exception.name, odd)
            with self.assertRaises(UnknownName) as caught:
                unit_key(version, "run", ["low", odd, "zzz"])
            self.assertIs(caught.exception.name, odd)


STANDARD = Pipeline.standard("c")


class BuildTest(unittest.TestCase):
    def setUp(self):
        self.deep = function("deep", ("ask", "a", "x", "price", ("n",)), ("return", ("add", "x", 1)))
        self.run = function("run", ("call", "c", "x", "deep", (3,)), ("sleep", "s", "x"), ("return", "x"))
        self.calm = function("calm", ("sleep", "s", "n"), ("return", 5))
        self.version = version_of(self.deep, self.run, self.calm)
        self.build = Build(self.version, STANDARD)

    def right(self, build):
        """Every code and map of a build is right."""
        codes, maps = build.codes(), build.maps()
        self.assertEqual(set(codes), set(build.version.names()))
        self.assertEqual(set(maps), set(codes))
        for name in codes:
            self.assertIsNone(judge(build.version, name, codes[name], maps[name]))

    def test_a_build(self):
        codes, maps = optimized(self.version, STANDARD)
        self.assertEqual((self.build.codes(), self.build.maps()), (codes, maps))
        self.assertTrue(self.build.version == self.version and self.build.pipeline == STANDARD)
        self.build.codes().clear()
        self.build.maps()["run"].clear()
        for row in self.build.maps()["run"].values():
            row[1].clear()
        self.assertEqual((self.build.codes(), self.build.maps()), (codes, maps))
        self.right(Build(version=self.version, pipeline=Pipeline()))

    def test_same_and_new(self):
        again, report = self.build.rebuilt(version=version_of(self.calm, self.deep, self.run, function("more")))
        self.assertEqual(report, {"calm": ("same",), "deep": ("same",), "run": ("same",), "more": ("new",)})
        self.assertEqual({name: again.codes()[name] for name in self.build.codes()}, self.build.codes())
        self.right(again)
        fewer, report = self.build.rebuilt(version_of(self.calm))
        self.assertEqual((report, list(fewer.codes())), ({"calm": ("same",)}, ["calm"]))

    def test_functions_that_are_inlined(self):
        deep = function("deep", ("ask", "a", "x", "price", ("n",)), ("return", ("add", "x", 2)))
        again, report = self.build.rebuilt(version_of(deep, self.run, self.calm))
        self.assertEqual((report["calm"], report["deep"][0], report["run"][0]), (("same",), "compiled", "compiled"))
        for name in ("deep", "run"):
            self.assertEqual(report[name][1], judge(again.version, name, self.build.codes()[name], self.build.maps()[name]))
            self.assertIsNotNone(report[name][1])
        self.right(again)
        self.assertTrue(again == Build(again.version, STANDARD))
        # Without inlining the one that calls it stays.
        plain = Build(self.version, Pipeline("dead"))
        self.assertEqual(plain.rebuilt(version_of(deep, self.run, self.calm))[1]["run"], ("same",))

    def test_kept(self):
        """The text is another one, but the code and the map are right for it."""
        deep = function("deep", ("ask", "a", "x", "price", ("n",)), ("return", ("add", 1, "x")))
        again, report = self.build.rebuilt(version_of(deep, self.run, self.calm))
        self.assertEqual(report, {"calm": ("same",), "deep": ("kept",), "run": ("kept",)})
        self.assertEqual((again.codes(), again.maps()), (self.build.codes(), self.build.maps()))
        self.right(again)
        self.assertFalse(again == self.build)
        # Its key stays: back in the first version they are the same, and in the second one kept again.
        self.assertEqual(again.rebuilt(self.version)[1], {"calm": ("same",), "deep": ("same",), "run": ("same",)})
        self.assertEqual(again.rebuilt(again.version)[1], report)
        self.assertTrue(again.rebuilt(self.version)[0] == self.build)

    def test_other_parameters(self):
        calm = function("calm", ("sleep", "s", 3), ("return", 5), params=())
        again, report = self.build.rebuilt(version_of(self.deep, self.run, calm))
        self.assertEqual(report["calm"], ("compiled", None))
        self.right(again)

    def test_kinds_doors_and_errors(self):
        doors = (("price", ("int",), "bool"), *DOORS[1:])
        deep = function("deep", ("ask", "a", "ok", "price", ("n",)), ("return", 1))
        again, report = self.build.rebuilt(Version([module(deep, self.run, self.calm, doors=doors)]))
        self.assertEqual((report["deep"][0], report["run"][0], report["calm"]), ("compiled", "compiled", ("same",)))
        self.right(again)
        plain = Build(self.version, Pipeline())
        failing = function("deep", ("ask", "a", "x", "price", ("n",)), ("if", ("less", "x", 0), (("raise", "dear"),), ()), ("return", ("add", "x", 1)))
        again, report = plain.rebuilt(version_of(failing, self.run, self.calm))
        # The signature of deep has an error now, but the code is right all the same.
        self.assertEqual((report["deep"][0], report["run"], report["calm"]), ("compiled", ("kept",), ("same",)))
        self.right(again)

    def test_true_is_not_one(self):
        one = version_of(function("run", ("set", "ok", ("same", True, True))), function("walk", ("set", "ok", ("same", 1, 1))))
        other = version_of(function("run", ("set", "ok", ("same", 1, 1))), function("walk", ("set", "ok", ("same", True, True))))
        self.assertEqual(unit_key(one, "run"), unit_key(other, "run"))
        self.assertFalse(strictly_equal(unit_key(one, "run"), unit_key(other, "run")))
        again, report = Build(one, Pipeline()).rebuilt(other)
        self.assertEqual(set(report.values()), {("kept",)})
        self.right(again)
        self.assertFalse(Build(one, Pipeline()) == Build(other, Pipeline()))

    def test_rebuilt_more_than_once(self):
        """A function that was compiled anew has the key of then."""
        deep = function("deep", ("ask", "a", "x", "price", ("n",)), ("return", ("add", "x", 2)))
        second, _ = self.build.rebuilt(version_of(deep, self.run, self.calm))
        third, report = second.rebuilt(version_of(deep, self.run, function("calm", ("sleep", "s", ("add", "n", 0)), ("return", 5))))
        self.assertEqual(report, {"deep": ("same",), "run": ("same",), "calm": ("kept",)})
        fourth, report = third.rebuilt(self.version)
        self.assertEqual((report["calm"], report["deep"][0], report["run"][0]), (("same",), "compiled", "compiled"))
        self.assertTrue(fourth == self.build)
        # The first build stays as it was.
        self.assertTrue(self.build == Build(self.version, STANDARD))

    def test_an_inlined_function_that_is_gone(self):
        run = function("run", ("ask", "q", "x", "price", (3,)), ("set", "x", ("add", "x", 1)), ("sleep", "s", "x"), ("return", "x"))
        again, report = self.build.rebuilt(version_of(run, self.calm))
        self.assertEqual((report["run"][0], report["calm"]), ("compiled", ("same",)))
        self.right(again)

    def test_equality(self):
        self.assertTrue(self.build == Build(version_of(self.deep, self.run, self.calm), Pipeline.standard("c")))
        self.assertFalse(self.build != Build(self.version, STANDARD))
        self.assertFalse(self.build == Build(self.version, Pipeline.standard()))
        self.assertFalse(self.build == Build(version_of(self.deep, self.run), STANDARD))
        for odd in (None, self.version, STANDARD, 1, ()):
            self.assertFalse(self.build == odd)
        # The codes and maps are the same, but not the pipeline.
        one, other = Build(self.version, Pipeline()), Build(self.version, Pipeline("hoist"))
        self.assertEqual((one.codes(), one.maps()), (other.codes(), other.maps()))
        self.assertFalse(one == other)
        # The version, the pipeline and the codes are the same, but not the maps.
        one, other = version_of(function("run", ("set", "x", 0), ("sleep", "s", "n"), ("return", "x"))), version_of(function("run", ("sleep", "s", "n"), ("return", "x")))
        kept, anew = Build(one, Pipeline("copies", "dead")).rebuilt(other)[0], Build(other, Pipeline("copies", "dead"))
        self.assertEqual((kept.codes(), kept.version == anew.version), (anew.codes(), True))
        self.assertNotEqual(kept.maps(), anew.maps())
        self.assertFalse(kept == anew)
        # The version and the pipeline are the same, but not the code.
        deep = function("deep", ("ask", "a", "x", "price", ("n",)), ("return", ("add", 1, "x")))
        changed = version_of(deep, self.run, self.calm)
        kept, _ = self.build.rebuilt(changed)
        self.assertEqual(kept == Build(changed, STANDARD), kept.codes() == Build(changed, STANDARD).codes() and kept.maps() == Build(changed, STANDARD).maps())

    def changed(self, version, chance):
        """The version with a change in one function."""
        modules = [list(one) for one in version.modules()]
        place = chance.randrange(len(modules))
        functions = list(modules[place][5])
        at = chance.randrange(len(functions))
        *head, body = functions[at]
        rows = list(body)
        word = chance.choice(("in", "out", "same", "set"))
        if word == "in":
            rows.insert(0, ("sleep", "99", 1))
        elif word == "out" and rows:
            rows.pop(0)
        elif word == "set":
            rows.insert(0, ("set", "va", ("add", 0, "va")))
        functions[at] = (*head, tuple(rows))
        modules[place][5] = tuple(functions)
        try:
            return Version([tuple(one) for one in modules])
        except InvalidVersion:
            return version

    def test_by_chance(self):
        """Executions of the rebuilt codes have what plain runs of the new version have."""
        words = {"same": 0, "kept": 0, "compiled": 0}
        for seed in range(25):
            version, chance = random_version(seed), Random(seed)
            build = Build(version, Pipeline.standard("1", "2", "lca") if seed % 2 else Pipeline())
            for _ in range(2):
                version = self.changed(version, chance)
                again, report = build.rebuilt(version)
                self.assertEqual(set(report), set(version.names()))
                for name, told in report.items():
                    words[told[0]] += 1
                    if told[0] in ("same", "kept"):
                        self.assertEqual((again.codes()[name], again.maps()[name]), (build.codes()[name], build.maps()[name]))
                    elif told[1] is not None:
                        self.assertEqual(judge(version, name, build.codes()[name], build.maps()[name]), told[1])
                start = random_start(version, seed)
                told = stories(version, start, chance, 2, 0.03, 8)
                self.assertIsNone(first_wrong(version, again.codes(), again.maps(), start, told))
                build = again
        self.assertTrue(all(words.values()), words)


if __name__ == "__main__":
    unittest.main()
