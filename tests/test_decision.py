"""heldover.decision: settled tasks, values of finite kinds, and the exact decision."""

import unittest
from random import Random

from heldover.decision import decide, settled, values_of
from heldover.errors import (
    InvalidArguments, InvalidEpoch, InvalidStart, InvalidStory, InvalidTask, NotFinite, TooMany, UnknownName,
)
from heldover.fits import misfit
from heldover.runs import Run
from heldover.versions import Version
from tests.anything import ODD
from tests.samples import version_with

TRIO = ("trio", (("One", ()), ("Two", ("bool",)), ("Tri", ("bool", "bool"))))
WRAP = ("wrap", (("Box", ("trio",)), ("Bag", ("trio", "bool"))))
DOORS = (("flag", (), "bool"), ("pick", ("bool",), "trio"), ("num", (), "int"))
KEYS = (("paid", "bool"), ("hue", "trio"), ("tell", "int"))
INNER = (("p", "bool"), ("q", "bool"), ("c", "trio"))


def fun(name, *body, params=(), inner=INNER, result="bool"):
    return (name, params, inner, result, body)


def made(*functions, kinds=(TRIO, WRAP), doors=DOORS, keys=KEYS):
    return Version([("shop", (), kinds, doors, keys, functions)])


def at(label, *before):
    return (0, *before, (label, 0))


def flag(label="a", variable="p"):
    return ("ask", label, variable, "flag", ())


ASKED = (("ask", "flag", ()), None, None)


class SettledTest(unittest.TestCase):
    def test_each_wait(self):
        version = version_with(
            ("sleep", "z", "n"), ("send", "m", ("self",), "num", "n"), ("since", "v", (("sleep", "y", 3),), ()), ("start", "g", "t", "run", (1,)))
        task = ("ann", 3, ("run", (4,), 2), {})
        self.assertEqual(settled(version, task), task)
        slept = {(3, ("z", 0)): (("sleep", 4), True, 9)}
        wanted = {**slept, (3, ("m", 0)): (("send", "ann", "num", 4), True, 9), (3, ("v", 0)): (("mark",), True, 9)}
        self.assertEqual(settled(version=version, task=("ann", 3, task[2], slept)), ("ann", 3, task[2], wanted))
        wanted[3, ("y", 0)] = (("sleep", 3), True, 12)
        found = settled(version, ("ann", 3, task[2], wanted))
        self.assertEqual(found[3], {**wanted, (3, ("g", 0)): (("start", "run", (1,)), "ann/3/g.0", 12)})
        self.assertEqual(Run(version, *found).end(), ("result", 0))

    def test_asks_and_receives(self):
        version = version_with(("both", "b", (("ask", "a", "x", "price", (1,)),), (("receive", "r", "y", "num"),)))
        story = settled(version, ("ann", 0, ("run", (1,), 5), {}))[3]
        self.assertEqual(story, {at("a", ("b", 0)): (("ask", "price", (1,)), None, None)})
        self.assertEqual(settled(version, ("ann", 0, ("run", (1,), 5), story))[3], story)

    def test_the_moment_of_its_step(self):
        version = version_with(("both", "b", (("sleep", "s", 1), ("send", "m", "t", "num", 1)), (("send", "k", "t", "num", 2),)), ("send", "l", "t", "num", 3))
        story = {at("s", ("b", 0)): (("sleep", 1), True, 8)}
        found = settled(version, ("ann", 0, ("run", (1,), 5), story))[3]
        self.assertEqual([found[index][2] for index in (at("m", ("b", 0)), (0, ("b", 1), ("k", 0)), at("l"))], [8, 5, 8])

    def test_nothing_is_changed(self):
        version = version_with(("send", "m", "t", "num", 1))
        story = {}
        found = settled(version, ("ann", 0, ("run", (1,), 5), story))
        self.assertEqual((story, len(found[3])), ({}, 1))
        found[3].clear()
        self.assertEqual(len(settled(version, ("ann", 0, ("run", (1,), 5), story))[3]), 1)

    def test_errors(self):
        version = version_with()
        for odd in ODD:
            if not isinstance(odd, str):
                self.assertRaises(InvalidTask, settled, version, (odd, odd, odd, odd))
            if type(odd) is not int or not 0 <= odd <= 10 ** 9:
                self.assertRaises(InvalidEpoch, settled, version, ("ann", odd, odd, odd))
            self.assertRaises(InvalidStart, settled, version, ("ann", 0, odd, odd))
            if not isinstance(odd, dict) or odd:
                self.assertRaises(InvalidStory, settled, version, ("ann", 0, ("run", (1,), 0), odd))


class ValuesTest(unittest.TestCase):
    def test_in_order(self):
        version = made(fun("run"))
        trio = [("One",), ("Two", False), ("Two", True), ("Tri", False, False), ("Tri", False, True), ("Tri", True, False), ("Tri", True, True)]
        self.assertEqual(values_of(version, "bool"), [False, True])
        self.assertEqual(values_of(version=version, kind="trio"), trio)
        self.assertEqual(values_of(version, "wrap"), [("Box", one) for one in trio] + [("Bag", one, truth) for one in trio for truth in (False, True)])
        self.assertIsNot(values_of(version, "bool"), values_of(version, "bool"))

    def test_forty_and_forty_one(self):
        # 8 * 4 + 8 = 40 values, and one more.
        four, eight = ("four", (("Fa", ("bool", "bool")),)), ("eight", (("Ea", ("bool", "bool", "bool")),))
        forty = ("forty", (("Ga", ("eight", "four")), ("Gb", ("eight",))))
        more = ("more", (("Ha", ("eight", "four")), ("Hb", ("eight",)), ("Hc", ())))
        above = ("above", (("Ia", ("more",)),))
        version = made(fun("run", inner=()), kinds=(four, eight, forty, more, above), doors=(), keys=())
        self.assertEqual(len(values_of(version, "forty")), 40)
        for kind in ("more", "above", "int", "task"):
            with self.assertRaises(NotFinite) as caught:
                values_of(version, kind)
            self.assertEqual(caught.exception.name, kind)

    def test_fields_that_are_not_finite(self):
        version = made(fun("run", inner=()), kinds=(("low", (("La", ()), ("Lb", ("int",)))), ("high", (("Ha", ()), ("Hb", ("low",)))), ("one", (("Oa", ()),))), doors=(), keys=())
        for kind in ("low", "high"):
            self.assertRaises(NotFinite, values_of, version, kind)
        self.assertEqual(values_of(version, "one"), [("Oa",)])

    def test_errors(self):
        version = made(fun("run"))
        for odd in (*ODD, "nope", "One"):
            with self.assertRaises(UnknownName) as caught:
                values_of(version, odd)
            self.assertIs(caught.exception.name, odd)


class Enumeration:
    """[89] and [90], written out: the stories at rest, in their order."""

    def __init__(self, old, function, args):
        self.old, self.start = old, (function, args, 0)

    def run(self, story):
        return Run(self.old, "", 0, self.start, story)

    def settle(self, story):
        while True:
            run, more = self.run(story), {}
            for index, question in run.waits().items():
                if question[0] == "ask" and index not in story:
                    more[index] = (question, None, None)
                if question[0] in ("send", "mark"):
                    more[index] = (question, True, run.moment(index))
                if question[0] == "start":
                    more[index] = (question, "/" + "/".join(["0"] + [f"{label}.{number}" for label, number in index[1:]]), run.moment(index))
            if not more:
                return story
            story = {**story, **more}

    def values(self, kind):
        if kind == "bool":
            return [False, True]
        found = []
        for tag, fields in self.old.kinds().variants(kind):
            rows = [()]
            for field in fields:
                rows = [(*row, value) for row in rows for value in self.values(field)]
            found += [(tag, *row) for row in rows]
        return found

    def behind(self, story):
        run = self.run(story)
        for index, question in sorted(run.waits().items()):
            moment = run.moment(index)
            if question[0] == "ask":
                answers = [(value, moment) for value in self.values(self.old.door(question[1])[1])]
            elif question[0] == "receive":
                answers = [((("", index), value), moment) for value in self.values(self.old.key(question[1]))]
            else:
                answers = [(True, moment + question[1])]
            for answer, when in answers:
                yield self.settle({**story, index: (question, answer, when)})

    def all(self):
        found = [self.settle({})]
        for story in found:
            for more in self.behind(story):
                if not any(repr(sorted(more.items())) == repr(sorted(other.items())) for other in found):
                    found.append(more)
        return found

    def decision(self, new):
        stories = self.all()
        for story in stories:
            why = misfit(self.old, new, ("", 0, self.start, story))
            if why is not None:
                return ("story", story, why)
        return ("fits", len(stories))


def listed(found):
    """A decision as a string; True is not 1 there."""
    return repr([sorted(item.items()) if isinstance(item, dict) else item for item in found])


class DecideTest(unittest.TestCase):
    def check(self, old, new, function="run", args=()):
        found = decide(old, new, function, args)
        self.assertEqual(listed(found), listed(Enumeration(old, function, args).decision(new)))
        return found

    def test_counts(self):
        self.assertEqual(self.check(made(fun("run")), made(fun("run"))), ("fits", 1))
        one = made(fun("run", flag()))
        self.assertEqual(self.check(one, one), ("fits", 3))
        pick = made(fun("run", ("ask", "a", "c", "pick", ("p",)), flag("d")))
        self.assertEqual(self.check(pick, pick), ("fits", 1 + 7 + 14))
        both = made(fun("run", ("both", "b", (flag("a", "p"),), (flag("z", "q"),))))
        self.assertEqual(self.check(both, both), ("fits", 1 + 2 + 2 + 4))

    def test_the_first_story_that_does_not_fit(self):
        old = made(fun("run", flag("a"), ("if", "p", (flag("b"),), (flag("d"),))))
        new = made(fun("run", flag("a"), ("if", "p", (flag("e"),), (flag("d"),))))
        story = {at("a"): (("ask", "flag", ()), True, 0), at("b"): ASKED}
        self.assertEqual(self.check(old, new), ("story", story, ("ahead", at("b"), (at("e"),))))
        self.assertEqual(decide(old=old, new=new, function="run", args=()), self.check(old, new))
        self.assertEqual(self.check(new, old)[1], {at("a"): (("ask", "flag", ()), True, 0), at("e"): ASKED})

    def test_the_first_story_of_all(self):
        self.assertEqual(self.check(made(fun("run", flag())), made(fun("walk"))), ("story", {at("a"): ASKED}, ("start",)))
        old = made(fun("run", flag()), doors=DOORS)
        new = made(fun("run", ("ask", "a", "c", "flag", ())), doors=(("flag", (), "trio"),))
        self.assertEqual(self.check(old, new), ("story", {at("a"): ASKED}, ("door", at("a"), ("ask", "flag", ()))))

    def test_sleeps_that_are_due(self):
        old = made(fun("run", flag(), ("sleep", "s", 3), ("sleep", "z", -2), ("receive", "r", "q", "paid")))
        new = made(fun("run", flag(), ("sleep", "s", 3), ("sleep", "z", -2), ("receive", "r", "q", "paid"), ("send", "m", ("self",), "paid", True)))
        self.assertEqual(self.check(old, new), ("fits", 1 + 2 + 2 + 2 + 4))
        other = made(fun("run", flag(), ("sleep", "s", 3), ("sleep", "z", 4)))
        found = self.check(old, other)
        slept = {at("a"): (("ask", "flag", ()), False, 0), at("s"): (("sleep", 3), True, 3), at("z"): (("sleep", 0), True, 3)}
        self.assertEqual(found, ("story", slept, ("question", at("z"), ("sleep", 0), ("sleep", 4))))

    def test_messages_of_a_task_to_itself(self):
        old = made(fun("run", ("send", "m", ("self",), "hue", ("tag", "One")), ("receive", "r", "c", "hue"), ("match", "c", (
            ("One", (), ()), ("Two", ("p",), (flag(),)), ("Tri", ("p", "q"), ())))))
        self.assertEqual(self.check(old, old), ("fits", 1 + 7 + 4))
        new = made(fun("run", ("send", "m", ("self",), "hue", ("tag", "One")), ("receive", "r", "c", "hue")))
        story = {at("m"): (("send", "", "hue", ("One",)), True, 0), at("r"): (("receive", "hue"), (("", at("r")), ("Two", False)), 0), at("a"): ASKED}
        self.assertEqual(self.check(old, new), ("story", story, ("missed", at("a"), ("ask", "flag", ()))))

    def test_becomes_marks_and_children(self):
        old = made(fun("run", flag(), ("start", "g", "t", "run", ()), ("since", "v", (flag("d"),), (flag("e"),)), ("become", "run", ()), inner=(*INNER, ("t", "task"))))
        with self.assertRaises(NotFinite):
            decide(old, old, "run")
        old = made(fun("run", flag(), ("since", "v", (flag("d"),), (flag("e"),)), ("become", "run", ())))
        self.assertEqual(self.check(old, old), ("fits", 1 + 2 + 4))
        new = made(fun("run", flag(), ("since", "v", (flag("d"), flag("k")), ()), ("become", "run", ())))
        self.assertEqual(self.check(old, new), ("fits", 7))
        new = made(fun("run", flag(), ("become", "run", ())))
        self.assertEqual(self.check(old, new)[2], ("missed", at("d"), ("ask", "flag", ())))

    def test_args(self):
        old = made(fun("run", ("if", "n", (flag("a"),), (flag("d"),)), params=(("n", "bool"),)))
        new = made(fun("run", ("if", "n", (flag("a"),), (flag("e"),)), params=(("n", "bool"),)))
        self.assertEqual(self.check(old, new, args=(True,)), ("fits", 3))
        self.assertEqual(self.check(old, new, args=(False,))[0], "story")

    def test_calls_errors_and_boths(self):
        deep = fun("deep", ("both", "b", (flag("a", "p"), ("if", "p", (("raise", "dear"),), ())), (("receive", "r", "q", "paid"),)), ("return", "q"))
        old = made(deep, fun("run", ("try", "t", (("call", "c", "p", "deep", ()),), (("dear", (flag("h"),)),)), ("sleep", "s", 1)))
        self.assertEqual(self.check(old, old)[0], "fits")
        new = made(deep, fun("run", ("try", "t", (("call", "c", "p", "deep", ()),), (("dear", (flag("k"),)),)), ("sleep", "s", 1)))
        self.assertEqual(self.check(old, new)[2][0], "ahead")

    def test_by_chance(self):
        counts = {"fits": 0, "story": 0}
        for seed in range(120):
            chance = Random(seed)
            old = small_version(chance)
            new = Version(mutated(old.modules(), chance)) if chance.random() < 0.8 else small_version(chance)
            try:
                found = decide(old, new, "run")
            except TooMany:
                continue
            counts[found[0]] += 1
            if found[0] == "story" or found[1] < 120:
                self.assertEqual(listed(found), listed(Enumeration(old, "run", ()).decision(new)))
            self.assertEqual(decide(old, old, "run")[0], "fits")
        self.assertTrue(min(counts.values()) > 15, counts)


def small_body(chance, depth, names):
    found = []
    for _ in range(chance.randint(1, 3 if depth == 1 else 2)):
        label = names.pop()
        variable = chance.choice("pq")
        word = chance.choice(("ask", "ask", "receive", "sleep", "send", "if", "since", "set"))
        if word == "ask":
            found.append(("ask", label, variable, "flag", ()))
        elif word == "receive":
            found.append(("receive", label, variable, "paid"))
        elif word == "sleep":
            found.append(("sleep", label, chance.choice((0, 2))))
        elif word == "send":
            found.append(("send", label, ("self",), "paid", variable))
        elif word == "set":
            found.append(("set", variable, ("not", chance.choice("pq"))))
        elif depth == 1:
            one, other = small_body(chance, 2, names), small_body(chance, 2, names)
            found.append(("if", variable, one, other) if word == "if" else ("since", label, one, other))
    return tuple(found)


def small_version(chance):
    return made(fun("run", *small_body(chance, 1, list("abcdefghijklmnstuvwxyz"))))


def mutated(modules, chance):
    """The modules with one statement of the function left out, doubled with another label, or exchanged with the next."""
    name, uses, kinds, doors, keys, functions = modules[0]
    *head, body = functions[0]
    rows = list(body)
    place = chance.randrange(len(rows))
    word = chance.choice(("out", "in", "swap", "mark", "nothing"))
    if word == "out":
        del rows[place]
    elif word == "in":
        rows.insert(place, flag("zz"))
    elif word == "mark":
        rows.insert(place, ("since", "zm", (flag("zz"),), ()))
    elif word == "swap" and place + 1 < len(rows):
        rows[place], rows[place + 1] = rows[place + 1], rows[place]
    return [(name, uses, kinds, doors, keys, ((*head, tuple(rows)),))]


class LimitTest(unittest.TestCase):
    """40 values, nine sleeps or eight, and 40 values again: 1 + 40 + 8 * 40 + 40 * 40 are 1,961 stories."""

    KINDS = (("wide", tuple(("W" + letter, ("bool", "bool", "bool")) for letter in "abcde")),)
    VARIABLES = (("p", "bool"), ("q", "bool"), ("r", "bool"), ("w", "wide"), ("v", "wide"))

    def version(self, *more, last=("ask", "z", "v", "big", ())):
        sleeps = ("loop", "k", 8, (("sleep", "s", 1),))
        body = (("ask", "a", "w", "big", ()), sleeps, *more, last)
        return made(("run", (), self.VARIABLES, "bool", body), kinds=self.KINDS, doors=(("big", (), "wide"),), keys=())

    def test_two_thousand_and_two_thousand_and_one(self):
        version = self.version()
        self.assertEqual(decide(version, version, "run"), ("fits", 1961))
        # One sleep more on 39 of the 40 ways, and on all of them.
        more = ("if", ("same", "w", ("tag", "Wa", False, False, False)), (), (("sleep", "y", 1),))
        version = self.version(more)
        self.assertEqual(decide(version, version, "run"), ("fits", 2000))
        version = self.version(("sleep", "y", 1))
        with self.assertRaises(TooMany) as caught:
            decide(version, version, "run")
        self.assertEqual(caught.exception.what, "stories")

    def test_a_story_that_does_not_fit_comes_before(self):
        version, other = self.version(("sleep", "y", 1)), self.version(("sleep", "y", 1), last=("sleep", "z", 1))
        self.assertEqual(decide(version, other, "run")[2], ("question", at("z"), ("ask", "big", ()), ("sleep", 1)))


class ErrorsTest(unittest.TestCase):
    def test_unknown_functions_and_arguments(self):
        old = made(fun("run", params=(("n", "bool"),)), fun("walk", inner=(("x", "int"),)))
        for odd in (*ODD, "nope"):
            with self.assertRaises(UnknownName) as caught:
                decide(old, old, odd, odd)
            self.assertIs(caught.exception.name, odd)
            with self.assertRaises(InvalidArguments) as caught:
                decide(old, old, "run", odd)
            self.assertEqual(caught.exception.name, "run")
        for args in ((), (1,), (True, True), [True]):
            self.assertRaises(InvalidArguments, decide, old, old, "run", args)
        self.assertRaises(InvalidArguments, decide, old, old, "walk", (1,))

    def infinite(self, *functions, **more):
        version = made(*functions, **more)
        with self.assertRaises(NotFinite) as caught:
            decide(version, version, "run")
        return caught.exception.name

    def test_each_place_of_a_kind(self):
        self.assertEqual(self.infinite(fun("run", inner=(("x", "int"),))), "run")
        self.assertEqual(self.infinite(fun("run", inner=(("t", "task"),))), "run")
        self.assertEqual(self.infinite(fun("run", result="int")), "run")
        version = made(fun("run", params=(("n", "int"),)))
        with self.assertRaises(NotFinite):
            decide(version, version, "run", (3,))
        big = ("big", (("Xa", ("int",)),))
        self.assertEqual(self.infinite(fun("run", inner=(("b", "big"),)), kinds=(TRIO, big)), "run")
        self.assertEqual(self.infinite(fun("run", ("ask", "a", "x", "num", ()), inner=(("x", "int"),))), "run")

    def test_what_is_only_sent_or_passed_may_be_of_any_kind(self):
        version = made(fun("run", ("send", "m", ("self",), "tell", 3), flag()), doors=(*DOORS[:2], ("num", ("int",), "bool")))
        self.assertEqual(decide(version, version, "run"), ("fits", 3))
        version = made(fun("run", ("ask", "a", "p", "num", (3,))), doors=(("num", ("int",), "bool"),), keys=())
        self.assertEqual(decide(version, version, "run"), ("fits", 3))

    def test_the_first_function_in_the_order_of_the_text(self):
        deep, mid = fun("deep", result="int"), fun("mid", ("call", "c", "x", "deep", ()), inner=(("x", "int"),))
        mid2 = fun("other", ("call", "c", "x", "mid", ()), inner=(*INNER, ("x", "bool")))
        self.assertEqual(self.infinite(deep, mid, mid2, fun("run", ("call", "c", "p", "other", ()))), "deep")
        self.assertEqual(self.infinite(fun("deep"), fun("mid", ("call", "c", "p", "deep", ()), inner=(*INNER, ("x", "int"))), fun("run", ("call", "c", "p", "mid", ()))), "mid")
        # A function that is not called does not count.
        version = made(fun("deep", result="int"), fun("run", flag(), ("become", "deep", ())))
        self.assertEqual(decide(version, version, "run"), ("fits", 3))


if __name__ == "__main__":
    unittest.main()
