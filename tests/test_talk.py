"""heldover.talk: rests, and what tasks may still send and receive."""

import unittest

from heldover.errors import InvalidEpoch, InvalidStart, InvalidStory, InvalidTask, UnknownName
from heldover.runs import Run
from heldover.syntax import bodies_of, label_of, statements
from heldover.talk import may_still, newcomers, rest
from tests.anything import ODD
from tests.programs import random_start, random_version
from tests.samples import function, version_of, version_with


def sleep(label, n=1):
    return ("sleep", label, n)


def send(label, key="num"):
    return ("send", label, "t", key, {"num": "x", "paid": "ok", "hue": "c"}[key])


def receive(label, key="num"):
    return ("receive", label, {"num": "y", "paid": "ok", "hue": "c"}[key], key)


def labels(version, label, name="run"):
    found = rest(version, name, label)
    assert found == sorted(set(found)) and all(function == name for function, _ in found)
    return "".join(label for _, label in found)


class RestTest(unittest.TestCase):
    def test_behind_a_statement(self):
        version = version_with(sleep("a"), ("set", "x", 1), sleep("b"), ("if", "ok", (sleep("c"),), (sleep("d"),)), sleep("e"))
        self.assertEqual([labels(version, one) for one in "abcde"], ["bcde", "cde", "e", "e", ""])
        self.assertEqual(rest(version=version, function="run", label="b"), [("run", "c"), ("run", "d"), ("run", "e")])

    def test_labels_that_were_filled_in(self):
        version = version_with(sleep(""), sleep("x"), sleep(""))
        self.assertEqual(rest(version, "run", "1"), [("run", "2"), ("run", "x")])
        self.assertRaises(UnknownName, rest, version, "run", "")

    def test_in_loops(self):
        inner = ("loop", "l", 2, (sleep("c"), ("if", "ok", (sleep("d"), ("break",)), ()), sleep("e")))
        version = version_with(sleep("a"), ("loop", "k", 2, (sleep("b"), inner, sleep("f"))), sleep("g"))
        self.assertEqual(labels(version, "a"), "bcdefgkl")
        self.assertEqual(labels(version, "k"), "g")
        self.assertEqual(labels(version, "b"), "bcdefgl")
        self.assertEqual(labels(version, "l"), "bcdefgl")
        for one in "cdef":
            self.assertEqual(labels(version, one), "bcdefgl")
        self.assertEqual(labels(version, "g"), "")

    def test_in_tries(self):
        version = version_with(
            ("try", "t", (sleep("a"), sleep("b")), (("dear", (sleep("c"), sleep("d"))), ("late", (sleep("e"), ("loop", "k", 2, (sleep("f"),)))))), sleep("g"))
        self.assertEqual([labels(version, one) for one in "tabcdef"], ["g", "bcdefgk", "cdefgk", "dg", "g", "fgk", "fg"])

    def test_in_marks_boths_and_matches(self):
        version = version_with(
            ("since", "m", (sleep("a"), sleep("b")), (sleep("c"), sleep("d"))), ("both", "n", (sleep("e"), sleep("f")), (sleep("g"), sleep("h"))),
            ("match", "c", (("Red", (), (sleep("i"),)), ("Mix", ("x", "t"), (sleep("j"), sleep("k"))))), sleep("l"))
        self.assertEqual(labels(version, "m"), "efghijkln")
        self.assertEqual(labels(version, "a"), "befghijkln")
        self.assertEqual(labels(version, "c"), "defghijkln")
        self.assertEqual([labels(version, one) for one in "nefghijkl"], ["ijkl", "fijkl", "ijkl", "hijkl", "ijkl", "l", "kl", "l", ""])

    def test_a_try_in_a_loop_in_a_both(self):
        version = version_with(("both", "n", (("loop", "k", 2, (("try", "t", (sleep("a"), ("raise", "dear")), (("dear", (sleep("b"),)),)),)),), (sleep("c"),)), sleep("d"))
        self.assertEqual([labels(version, one) for one in "abtk"], ["abdt", "abdt", "abdt", "d"])

    def test_errors(self):
        version = version_with(sleep("a"))
        for odd in (*ODD, "walk"):
            with self.assertRaises(UnknownName) as caught:
                rest(version, odd, odd)
            self.assertIs(caught.exception.name, odd)
        for odd in (*ODD, "b"):
            if not isinstance(odd, str) or odd != "a":
                with self.assertRaises(UnknownName) as caught:
                    rest(version, "run", odd)
                self.assertIs(caught.exception.name, odd)

    def test_against_the_words(self):
        """Written out by paths: behind it, behind those around it, loops around it, handlers of tries around it."""
        for seed in range(40):
            version = random_version(seed)
            for name in version.names():
                rows = list(statements(version.function(name)[4]))
                for path, statement in rows:
                    if label_of(statement) is None:
                        continue
                    wanted = set()
                    for other, one in rows:
                        for cut in range(0, len(path), 2):
                            before, place = path[:cut], path[cut]
                            behind = other[:cut] == before and other[cut] > place
                            around = dict(rows)[path[:cut + 1]] if len(path) > cut + 1 else None
                            inside = around is not None and len(other) > cut + 1 and other[:cut + 1] == path[:cut + 1]
                            looped = inside and around[0] == "loop"
                            handled = inside and around[0] == "try" and path[cut + 1] == 0 and other[cut + 1] > 0
                            if (behind or looped or handled) and label_of(one) is not None:
                                wanted.add((name, label_of(one)))
                    self.assertEqual(rest(version, name, label_of(statement)), sorted(wanted))
                    self.assertTrue(all(isinstance(body, tuple) for body in bodies_of(statement)))


class MayStillTest(unittest.TestCase):
    def still(self, version, story=(), start=("run", (1,), 0), epoch=0):
        return may_still(version, ("ann", epoch, start, dict(story)))

    def test_at_a_wait(self):
        version = version_with(send("a"), receive("b"), receive("d", "paid"), send("e", "paid"))
        rows = [("receive", "num", "run", "b"), ("receive", "paid", "run", "d"), ("send", "num", "run", "a"), ("send", "paid", "run", "e")]
        self.assertEqual(self.still(version), rows)
        story = {(0, ("a", 0)): (("send", "", "num", 0), True, 0)}
        self.assertEqual(may_still(version=version, task=("ann", 0, ("run", (1,), 0), story)), [*rows[:2], rows[3]])
        story[0, ("b", 0)] = (("receive", "num"), (("", (0, ("b", 0))), 3), 0)
        self.assertEqual(self.still(version, story), [rows[1], rows[3]])

    def test_behind_an_open_ask(self):
        version = version_with(send("z"), ("ask", "a", "x", "price", (1,)), send("b"))
        story = {(0, ("z", 0)): (("send", "", "num", 0), True, 0), (0, ("a", 0)): (("ask", "price", (1,)), None, None)}
        self.assertEqual(self.still(version, story), [("send", "num", "run", "b")])

    def test_in_both_bodies(self):
        version = version_with(("both", "n", (sleep("a"), send("b")), (sleep("s"), receive("q"))), send("d", "hue"))
        wanted = [("receive", "num", "run", "q"), ("send", "hue", "run", "d"), ("send", "num", "run", "b")]
        self.assertEqual(self.still(version), wanted)
        story = {(0, ("n", 0), ("a", 0)): (("sleep", 1), True, 0), (0, ("n", 0), ("b", 0)): (("send", "", "num", 0), True, 0)}
        self.assertEqual(self.still(version, story), wanted[:2])

    def test_at_a_mark(self):
        mark = ("since", "m", (send("a"),), (receive("b"), ("start", "k", "t", "other", ())))
        version = version_of(function("other", receive("o", "hue"), params=()), function("run", mark, send("d", "paid")))
        self.assertEqual(self.still(version), [
            ("receive", "hue", "other", "o"), ("receive", "num", "run", "b"), ("send", "num", "run", "a"), ("send", "paid", "run", "d")])
        taken = {(0, ("m", 0)): (("mark",), True, 0)}
        self.assertEqual(self.still(version, taken), [("send", "num", "run", "a"), ("send", "paid", "run", "d")])

    def calls(self):
        deep = function("deep", sleep("s"), send("a"), params=())
        mid = function("mid", send("b"), ("call", "c", "x", "deep", ()), receive("d"), params=())
        top = function("run", ("call", "e", "x", "mid", ()), send("f", "paid"), ("call", "g", "x", "deep", ()))
        return version_of(deep, mid, top)

    def test_in_callees(self):
        version = self.calls()
        rows = {"a": ("send", "num", "deep", "a"), "b": ("send", "num", "mid", "b"), "d": ("receive", "num", "mid", "d"), "f": ("send", "paid", "run", "f")}
        self.assertEqual(self.still(version), sorted(rows.values()))
        story = {(0, ("e", 0), ("b", 0)): (("send", "", "num", 0), True, 0)}
        # b itself is behind; deep is called again by g.
        self.assertEqual(self.still(version, story | {}), self.still(version, story))
        self.assertEqual([row for row in self.still(version, {}) if row == rows["b"]], [rows["b"]])

    def test_frames_of_callers(self):
        deep = function("deep", sleep("s"), send("a"), params=())
        top = function("run", send("z"), ("call", "e", "x", "deep", ()), send("f", "paid"))
        version = version_of(deep, top)
        story = {(0, ("z", 0)): (("send", "", "num", 0), True, 0)}
        self.assertEqual(self.still(version, story), [("send", "num", "deep", "a"), ("send", "paid", "run", "f")])
        slept = {**story, (0, ("e", 0), ("s", 0)): (("sleep", 1), True, 0), (0, ("e", 0), ("a", 0)): (("send", "", "num", 0), True, 0)}
        version = version_of(function("deep", sleep("s"), ("send", "a", "t", "num", 0), params=()), top)
        self.assertEqual(self.still(version, slept), [("send", "paid", "run", "f")])

    def test_a_call_in_a_loop_comes_again(self):
        deep = function("deep", send("a"), sleep("s"), params=())
        version = version_of(deep, function("run", ("loop", "k", 2, (("call", "e", "x", "deep", ()),))))
        story = {(0, ("k", 0), ("e", 0), ("a", 0)): (("send", "", "num", 0), True, 0)}
        self.assertEqual(self.still(version, story), [("send", "num", "deep", "a")])

    def test_starts_and_becomes(self):
        child = function("child", receive("r", "hue"), ("become", "last", ()), params=())
        last = function("last", sleep("s"), send("l", "paid"), ("become", "last", ()), params=())
        run = function("run", sleep("w"), ("start", "g", "t", "child", ()), sleep("z"))
        version = version_of(child, last, run)
        wanted = [("receive", "hue", "child", "r"), ("send", "paid", "last", "l")]
        self.assertEqual(self.still(version), wanted)
        started = {(0, ("w", 0)): (("sleep", 1), True, 0)}
        # It waits at the start itself.
        self.assertEqual(self.still(version, started), wanted)
        started[0, ("g", 0)] = (("start", "child", ()), "ann/0/g.0", 0)
        self.assertEqual(self.still(version, started), [])

    def test_behind_ends(self):
        other = function("other", send("o", "hue"), params=())
        one = version_of(other, function("run", sleep("s"), ("if", ("less", "n", 5), (("become", "other", ()),), ()), ("return", 1)))
        two = version_of(other, function("run", sleep("s"), ("raise", "dear")))
        slept = {(0, ("s", 0)): (("sleep", 1), True, 0)}
        self.assertEqual(self.still(one), [("send", "hue", "other", "o")])
        self.assertEqual(self.still(one, slept), [("send", "hue", "other", "o")])
        self.assertEqual(self.still(one, slept, ("run", (9,), 0)), [])
        self.assertEqual(self.still(two, slept), [])

    def test_a_run_with_a_difference(self):
        version = version_with(("both", "n", (sleep("a"), send("b")), (sleep("s"), receive("q"))))
        self.assertEqual(self.still(version, {(0, ("n", 0), ("a", 0)): (("sleep", 2), True, 0)}), [("receive", "num", "run", "q")])

    def test_errors(self):
        version = version_with(sleep("a"))
        for odd in ODD:
            if not isinstance(odd, str):
                self.assertRaises(InvalidTask, may_still, version, (odd, odd, odd, odd))
            if type(odd) is not int or not 0 <= odd <= 10 ** 9:
                self.assertRaises(InvalidEpoch, may_still, version, ("ann", odd, odd, odd))
            self.assertRaises(InvalidStart, may_still, version, ("ann", 0, odd, odd))
            if not isinstance(odd, dict) or odd:
                self.assertRaises(InvalidStory, may_still, version, ("ann", 0, ("run", (1,), 0), odd))

    def test_newcomers(self):
        version = self.calls()
        self.assertEqual(newcomers(version=version), [
            ("receive", "num", "mid", "d"), ("send", "num", "deep", "a"), ("send", "num", "mid", "b"), ("send", "paid", "run", "f")])
        self.assertEqual(newcomers(version_with()), [])

    def test_what_is_done_was_said_to_be_possible(self):
        """Each send and receive at which a run waits was among what it might still do before, at each moment."""
        for seed in range(60):
            version, start = random_version(seed), random_start(random_version(seed), seed)
            story, past = {}, []
            for _ in range(12):
                run = Run(version, "ann", 0, start, story)
                found = may_still(version, ("ann", 0, start, story))
                self.assertEqual(found, sorted(set(found)))
                self.assertTrue(set(found) <= set(newcomers(version)))
                past.append(found)
                waits = [(index, question) for index, question in sorted(run.waits().items())]
                for index, question in waits:
                    if question[0] in ("send", "receive"):
                        name, label, _ = run.frames(index)[-1]
                        row = (question[0], question[2 if question[0] == "send" else 1], name, label)
                        self.assertTrue(all(row in one for one in past))
                if not waits:
                    break
                index, question = waits[seed % len(waits)]
                answer = {"ask": None, "start": "kid", "receive": None}.get(question[0], True)
                if question[0] == "ask":
                    answer = version.kinds().zero(version.door(question[1])[1])
                if question[0] == "receive":
                    answer = (("", index), version.kinds().zero(version.key(question[1])))
                story[index] = (question, answer, 0)


if __name__ == "__main__":
    unittest.main()
