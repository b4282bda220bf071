"""heldover.worlds: sides and partings, records and their worlds, and the worlds of tasks that are left behind."""

import unittest
from random import Random

from heldover.compiler import compiled_all
from heldover.errors import (
    InvalidAnswer, InvalidChoices, InvalidCount, InvalidLog, InvalidSide, InvalidStory, NotFound, UnknownName,
)
from heldover.execution import Execution
from heldover.flows import least_frame
from heldover.machine import Machine
from heldover.moves import greatest
from heldover.pipelines import Pipeline, optimized
from heldover.recovery import recover, short_text
from heldover.runs import Run
from heldover.talk import may_still, newcomers
from heldover.versions import Version
from heldover.worlds import (
    first_parting, is_record_worlds, left_worlds, next_value, parting, record_worlds, shows,
)
from tests.anything import ODD
from tests.lives import random_life, random_operation
from tests.programs import random_start, random_version
from tests.samples import COLOR, DOORS, function, module, version_of, version_with
from tests.talkers import line_of_talkers, random_population
from tests.test_execution import DOUBLE, START, code_of, slot
from tests.test_machine import SHOP, TALK, A, M, R, S, shop
from tests.test_moves import BOOL, INT, placed, talker, version_with_keys
from tests.test_recovery import answered, file_of
from tests.test_runs import VERSION
from tests.watching import stories

CODES, MAPS = compiled_all(VERSION)
RUN = ("run", VERSION, "ann", 0, START)
CODE = ("code", VERSION, CODES, "ann", 0, START)
FAST = ("code", VERSION, {"buy": DOUBLE}, "ann", 0, START)
STUCK = code_of(((), (), ("branch", slot(2), 0, 0)), name="buy", slots=4)
ASK3, ASK6 = ("ask", "price", (3,)), ("ask", "price", (6,))
W, P = (0, ("b", 0), ("w", 0)), (0, ("b", 1), ("r", 0))


def frame_side(story=()):
    return ("frame", VERSION, CODES, "ann", 0, Execution(VERSION, CODES, "ann", 0, START, dict(story)).frame())


def stuck_side():
    return ("code", VERSION, {"buy": STUCK}, "ann", 0, START)


class ShowsTest(unittest.TestCase):
    def test_each_kind_of_side(self):
        story = {A: (ASK3, 7, 12)}
        waits = {W: ("sleep", 5), P: ("receive", "paid")}
        for side in (RUN, CODE, frame_side(), frame_side(story)):
            self.assertEqual(shows(side, story), (waits, {}, None))
            self.assertEqual(shows(side=side, story={A: (ASK3, True, 12)})[1] != {}, side != frame_side(story))
        whole = {**story, W: (("sleep", 5), True, 20), P: (("receive", "paid"), (("", P), True), 20)}
        for side in (RUN, CODE, frame_side(), frame_side(story)):
            self.assertEqual(shows(side, whole), ({}, {}, ("result", 10)))
        self.assertEqual(shows(FAST, {A: (ASK6, 7, 12)}), ({}, {}, ("result", 7)))
        self.assertEqual(shows(RUN, {A: (ASK6, 7, 12)}), ({}, {A: ("question", ASK3)}, None))
        self.assertEqual(shows(stuck_side(), {}), ("stuck", "buy", 0))

    def test_dicts_are_new(self):
        shows(RUN, {})[0].clear()
        self.assertEqual(shows(RUN, {}), ({A: ASK3}, {}, None))

    def test_what_is_no_side(self):
        frame = frame_side()[5]
        sides = [RUN, CODE, FAST, frame_side(), stuck_side()]
        for side in sides:
            for wrong in (list(side), side[:-1], (*side, 1), ("nope", *side[1:]), (None, *side[1:])):
                self.no_side(wrong)
            for item in range(1, len(side)):
                for odd in ODD:
                    if item == len(side) - 3 and isinstance(odd, str) and odd != "\n" or item == len(side) - 2 and type(odd) is int and 0 <= odd < 10:
                        self.assertTrue(shows((*side[:item], odd, *side[item + 1:]), {}))
                    else:
                        self.no_side((*side[:item], odd, *side[item + 1:]))
        for wrong in (
            ("run", VERSION, "ann", 0, ("buy", (True,), 10)), ("run", VERSION, "ann", 10 ** 9 + 1, START), ("run", VERSION, "a%", 0, START),
            ("code", VERSION, {}, "ann", 0, START), ("code", VERSION, {"other": CODES["buy"]}, "ann", 0, START), ("code", VERSION, {"buy": ("buy", 2, *DOUBLE[2:])}, "ann", 0, START),
            ("code", VERSION, CODES, "ann", 0, ("buy", (), 10)), ("code", VERSION, CODES, "ann", 0, frame), ("frame", VERSION, CODES, "ann", 0, START),
            ("frame", VERSION, {"buy": DOUBLE}, "ann", 0, frame), ("frame", VERSION, {"buy": ("other", *DOUBLE[1:])}, "ann", 0, ("buy", ((3, 6), 1, None))),
            ("run", VERSION, CODES, "ann", 0, START), ("code", VERSION, "ann", 0, START),
        ):
            self.no_side(wrong)
        for odd in ODD:
            self.no_side(odd)

    def no_side(self, value):
        for call in (lambda: shows(value, 3), lambda: parting(value, 3, 3), lambda: parting(RUN, value, 3), lambda: first_parting(value, 3, 3),
                     lambda: first_parting(RUN, value, 3)):
            with self.assertRaises(InvalidSide) as caught:
                call()
            self.assertIs(caught.exception.value, value)

    def test_invalid_stories(self):
        later = ("run", VERSION, "ann", 5, START)
        for odd in (*ODD, {(5, ("a", 0)): (ASK3, 7, 12)}, {A: (ASK3, 7)}):
            if not isinstance(odd, dict) or odd:
                for call in (lambda: shows(RUN, odd), lambda: parting(RUN, RUN, odd), lambda: parting(RUN, later, odd), lambda: first_parting(RUN, RUN, {}, story=odd, most=-1)):
                    if odd is None:
                        continue
                    with self.assertRaises(InvalidStory) as caught:
                        call()
                    self.assertIs(caught.exception.value, odd)
        with self.assertRaises(InvalidStory):
            parting(RUN, later, {A: (ASK3, 7, 12)})
        with self.assertRaises(InvalidStory):
            shows(RUN, None)


class PartingTest(unittest.TestCase):
    def test_the_example(self):
        found = parting(FAST, RUN, {})
        self.assertEqual(found, (A, ("waits", ASK6), ("waits", ASK3)))
        self.assertEqual(parting(one=RUN, other=FAST, story={}), (A, found[2], found[1]))

    def test_the_same(self):
        for one in (RUN, CODE, frame_side()):
            for other in (RUN, CODE, frame_side()):
                for story in ({}, {A: (ASK3, 7, 12)}, {A: (ASK6, 7, 12)}):
                    self.assertIsNone(parting(one, other, story))
        self.assertIsNone(parting(stuck_side(), stuck_side(), {}))

    def test_stuck_sides(self):
        other = ("code", VERSION, {"buy": code_of(((), (), ("jump", 1)), (None, (), ("branch", slot(2), 0, 0)), name="buy", slots=4)}, "ann", 0, START)
        self.assertEqual(parting(RUN, stuck_side(), {}), (None, None, ("stuck", "buy", 0)))
        self.assertEqual(parting(stuck_side(), other, {}), (None, ("stuck", "buy", 0), ("stuck", "buy", 1)))
        whole = {A: (ASK6, 7, 12)}
        self.assertEqual(parting(FAST, stuck_side(), whole), (None, ("result", 7), ("stuck", "buy", 0)))

    def test_ends_alone(self):
        one, other = version_with(("sleep", "s", 1), ("return", 1)), version_with(("sleep", "s", 1), ("raise", "dear"))
        third = Version([("shop", (), (), (), (), (("run", (("n", "int"),), (), "bool", (("sleep", "s", 1), ("return", True))),))])
        start, slept = ("run", (1,), 0), {S: (("sleep", 1), True, 1)}
        sides = [("run", version, "ann", 0, start) for version in (one, other, third)]
        self.assertIsNone(parting(sides[0], sides[1], {}))
        self.assertEqual(parting(sides[0], sides[1], slept), (None, ("result", 1), ("error", "dear")))
        # True is not 1.
        self.assertEqual(repr(parting(sides[0], sides[2], slept)), "(None, ('result', 1), ('result', True))")

    def test_the_least_index(self):
        def both(one, other):
            return ("run", version_with(("both", "b", (("sleep", "s", one),), (("sleep", "z", other),)), ("sleep", "a", 1)), "ann", 0, ("run", (1,), 0))
        s, z = (0, ("b", 0), ("s", 0)), (0, ("b", 1), ("z", 0))
        self.assertEqual(parting(both(1, 2), both(1, 3), {}), (z, ("waits", ("sleep", 2)), ("waits", ("sleep", 3))))
        self.assertEqual(parting(both(1, 2), both(2, 3), {}), (s, ("waits", ("sleep", 1)), ("waits", ("sleep", 2))))
        story = {s: (("sleep", 1), True, 0)}
        self.assertEqual(parting(both(1, 2), both(2, 2), story), (s, None, ("different", "question", ("sleep", 2))))
        self.assertEqual(parting(both(1, 2), both(1, 2), story), None)
        single = ("run", version_with(("sleep", "x", 1)), "ann", 0, ("run", (1,), 0))
        self.assertEqual(parting(both(1, 2), single, {}), (s, ("waits", ("sleep", 1)), None))

    def test_missed_entries(self):
        one = ("run", version_with(("sleep", "s", 1), ("sleep", "z", 1)), "ann", 0, ("run", (1,), 0))
        other = ("run", version_with(("sleep", "s", 1)), "ann", 0, ("run", (1,), 0))
        z = (0, ("z", 0))
        story = {S: (("sleep", 1), True, 0), z: (("sleep", 1), True, 0)}
        self.assertEqual(parting(one, other, story), (z, None, ("different", "missed", ("sleep", 1))))

    def test_right_codes_never_part(self):
        for seed in range(12):
            version, chance = random_version(seed), Random(seed)
            start = random_start(version, seed)
            fast, _ = optimized(version, Pipeline.standard("1", "2"))
            run = ("run", version, "ann", 0, start)
            sides = [("code", version, compiled_all(version)[0], "ann", 0, start), ("code", version, fast, "ann", 0, start)]
            for story in stories(version, start, chance, 2, 0.03, 8):
                for side in sides:
                    self.assertIsNone(parting(run, side, story))


class FirstPartingTest(unittest.TestCase):
    def sides(self, one, other, n=1):
        return [("run", version_with(*body), "ann", 0, ("run", (n,), 0)) for body in (one, other)]

    def test_breadth_first_and_the_choices_in_order(self):
        ask, flag = ("ask", "a", "x", "price", (1,)), ("ask", "f", "ok", "flag", ())
        one, other = self.sides((ask, flag, ("if", ("less", "x", 5), (), (("return", 1),))), (ask, flag, ("if", ("less", "x", 5), (), (("return", 2),))))
        f = (0, ("f", 0))
        choices = {"price": [3, 9, 7, 6], "flag": (True, False)}
        story = {A: (("ask", "price", (1,)), 9, 0), f: (("ask", "flag", ()), True, 0)}
        wanted = (story, (None, ("result", 1), ("result", 2)))
        self.assertEqual(first_parting(one, other, choices), wanted)
        # The empty story, four with one answer, then those behind 3, and the first one behind 9.
        self.assertEqual(first_parting(one, other, choices, most=8), wanted)
        self.assertIsNone(first_parting(one, other, choices, story=None, most=7))
        self.assertIsNone(first_parting(one, other, {"price": [3], "flag": [True]}))
        self.assertIsNone(first_parting(one, other, {"price": [9]}))
        self.assertIsNone(first_parting(one, other, {}))

    def test_most(self):
        one, other = self.sides((("sleep", "s", 1),), (("sleep", "s", 2),))
        self.assertEqual(first_parting(one, other, {}, most=1), ({}, (S, ("waits", ("sleep", 1)), ("waits", ("sleep", 2)))))
        self.assertIsNone(first_parting(one, other, {}, most=0))

    def test_five_hundred_stories(self):
        """Two asks with 24 answers each, or 20: the story with the last but one and the last answer."""
        def body(result):
            both = ("both", "b", (("ask", "a", "x", "price", (1,)),), (("ask", "z", "y", "price", (2,)),))
            return (both, ("if", ("same", ("add", "x", ("mul", "y", 100)), 2322), (("return", result),), ()))
        one, other = self.sides(body(1), body(2))
        choices = {"price": list(range(24))}
        # 1 + 24 + 24 stories with one answer at most; then 24 * 24 with both, in the order of the first answer.
        found = first_parting(one, other, choices, most=1000)
        at = 49 + 22 * 24 + 24
        self.assertEqual([entry[1] for _, entry in sorted(found[0].items())], [22, 23])
        self.assertEqual(first_parting(one, other, choices, most=at), found)
        self.assertIsNone(first_parting(one, other, choices, most=at - 1))
        self.assertIsNone(first_parting(one, other, choices))
        earlier = {"price": [*range(18), 22, 23]}
        place = 41 + 18 * 20 + 20
        self.assertTrue(place < 500)
        self.assertEqual(first_parting(one, other, earlier), found)

    def test_the_five_hundredth_story_and_the_next_one(self):
        for most, story in ((500, 498), (500, 499), (3, 1), (3, 2)):
            def body(result):
                return (("ask", "a", "x", "price", (1,)), ("if", ("same", "x", story), (("return", result),), ()))
            one, other = self.sides(body(1), body(2))
            choices = {"price": list(range(600))}
            # The empty story is the first one, that with the answer 0 the second one.
            found = first_parting(one, other, choices) if most == 500 else first_parting(one, other, choices, most=most)
            self.assertEqual(found is None, story + 2 > most, story)

    def test_the_greatest_moment_of_the_story(self):
        body = (("both", "b", (("sleep", "s", 1), ("sleep", "u", 1)), (("sleep", "z", 1), ("ask", "a", "x", "price", (1,)))), ("return", "x"))
        one, other = self.sides(body, (*body[:-1], ("return", 5)))
        s, u, z, a = [(0, ("b", number), (label, 0)) for number, label in ((0, "s"), (0, "u"), (1, "z"), (1, "a"))]
        story = {s: (("sleep", 1), True, 9), z: (("sleep", 1), True, 4), a: (("ask", "price", (1,)), None, None)}
        found = first_parting(one, other, {"price": [6]}, story=story)[0]
        self.assertEqual(found, {**story, a: (("ask", "price", (1,)), 6, 9), u: (("sleep", 1), True, 9)})

    def test_waits_in_ascending_order(self):
        """Also those of codes that do the greater index first."""
        def code(result):
            later, sooner = (("b", 0), ("z", 0)), (("b", 0), ("s", 0))
            return code_of(((), (), ("jump", 1)), ((("b", 0),), (), ("both", 2, 4, (), (), 6, ())), (later, (), ("sleep", ("value", 1), 3)), (None, (), ("done",)),
                           (sooner, (), ("sleep", ("value", 1), 5)), (None, (), ("done",)), ((("b", 2),), (), ("return", ("value", result))), name="buy", slots=1)
        one, other = [("code", VERSION, {"buy": code(result)}, "ann", 0, START) for result in (1, 2)]
        s, z = (0, ("b", 0), ("s", 0)), (0, ("b", 0), ("z", 0))
        self.assertEqual(list(shows(one, {})[0]), [z, s])
        self.assertEqual(first_parting(one, other, {}, most=4)[1], (None, ("result", 1), ("result", 2)))
        stuck = ("code", VERSION, {"buy": code_of(*code(3)[3][:4], (code(3)[3][4][0], (), ("sleep", ("value", 1), 7)), *code(3)[3][5:], (None, (), ("jump", 7)), name="buy", slots=1)}, "ann", 0, START)
        # The story with the lesser index comes first.
        self.assertEqual(first_parting(one, stuck, {}), ({s: (("sleep", 1), True, 0)}, (None, None, ("stuck", "buy", 7))))
        self.assertIsNone(first_parting(one, stuck, {}, most=1))
        self.assertIsNotNone(first_parting(one, stuck, {}, most=2))

    def test_each_once(self):
        one, other = self.sides((("both", "b", (("sleep", "s", 1),), (("sleep", "z", 1),)), ("return", 1)), (("both", "b", (("sleep", "s", 1),), (("sleep", "z", 1),)), ("return", 2)))
        self.assertIsNone(first_parting(one, other, {}, most=3))
        self.assertIsNotNone(first_parting(one, other, {}, most=4))
        # Choices that are the same twice make one story; True and 1 make two.
        ask = ("ask", "a", "x", "price", (1,))
        one, other = self.sides((ask, ("sleep", "s", "x"), ("return", 1)), (ask, ("sleep", "s", "x"), ("return", 2)))
        self.assertIsNone(first_parting(one, other, {"price": [4, 4]}, most=2))
        self.assertEqual(len(first_parting(one, other, {"price": [4, 4]}, most=3)[0]), 2)

    def test_answers_to_every_wait(self):
        body = (("send", "m", "t", "num", 1), ("since", "v", (("sleep", "w", 1),), ()), ("receive", "r", "y", "num"), ("start", "g", "t", "run", (1,)))
        one, other = self.sides((*body, ("return", "y")), (*body, ("return", 5)))
        story, place = first_parting(one, other, {"num": [5, 6]})
        r = (0, ("r", 0))
        self.assertEqual(story, {
            M: (("send", "", "num", 1), True, 0), (0, ("v", 0)): (("mark",), True, 0), (0, ("w", 0)): (("sleep", 1), True, 0),
            (0, ("g", 0)): (("start", "run", (1,)), "ann/0/g.0", 0), r: (("receive", "num"), (("", r), 6), 0)})
        self.assertEqual(place, (None, ("result", 6), ("result", 5)))

    def test_the_story_with_which_it_begins(self):
        one, other = self.sides((("ask", "a", "x", "price", (1,)), ("sleep", "s", 1), ("return", "x")), (("ask", "a", "x", "price", (1,)), ("sleep", "s", 1), ("return", 5)))
        story = {A: (("ask", "price", (1,)), 6, 17)}
        found = first_parting(one=one, other=other, choices={}, story=story, most=500)
        self.assertEqual(found, ({**story, S: (("sleep", 1), True, 17)}, (None, ("result", 6), ("result", 5))))
        self.assertEqual(len(story), 1)
        opened = {A: (("ask", "price", (1,)), None, None)}
        found = first_parting(one, other, {"price": [5, 6]}, story=opened)
        self.assertEqual(found[0], {A: (("ask", "price", (1,)), 6, 0), S: (("sleep", 1), True, 0)})

    def test_runs_and_their_codes(self):
        for seed in range(8):
            version = random_version(seed)
            start = random_start(version, seed)
            fast, _ = optimized(version, Pipeline.standard("1", "2"))
            choices = {"price": [0, 3], "flag": [True, False], "pick": [("Red",), ("Mix", 1, "")], "paid": [True], "note": [("Red",)], "num": [2]}
            run, code = ("run", version, "ann", 0, start), ("code", version, fast, "ann", 0, start)
            self.assertIsNone(first_parting(run, code, choices, most=60))
            frame = Execution(version, fast, "ann", 0, start, {}).frame() if Run(version, "ann", 0, start, {}).tree() is not None else None
            if frame is not None:
                self.assertIsNone(first_parting(("frame", version, fast, "ann", 0, frame), ("frame", version, fast, "ann", 0, least_frame(fast, frame)), choices, most=60))

    def test_stuck_sides_have_no_further_stories(self):
        self.assertIsNone(first_parting(stuck_side(), stuck_side(), {"price": [1]}))
        self.assertEqual(first_parting(stuck_side(), RUN, {}), ({}, (None, ("stuck", "buy", 0), None)))

    def test_errors(self):
        for odd in ODD:
            if not isinstance(odd, dict) or set(odd) - {"a"}:
                self.assertIsNone(self.invalid(RUN, RUN, odd))
            self.assertIsNone(self.invalid(RUN, RUN, {"price": [1], 3: odd}))
            if not isinstance(odd, (list, tuple)) or odd:
                self.assertEqual(self.invalid(RUN, RUN, {"price": odd, "zzz": 1}), "price")
            if type(odd) is not int:
                self.assertEqual(self.invalid(RUN, RUN, {"price": [1, odd]}), "price")
            if type(odd) is not int or odd < 0:
                with self.assertRaises(InvalidCount) as caught:
                    first_parting(RUN, RUN, {"price": [1]}, most=odd)
                self.assertIs(caught.exception.value, odd)
        self.assertEqual(self.invalid(RUN, RUN, {"zoo": [], "buy": [], "price": [1]}), "buy")
        self.assertEqual(self.invalid(RUN, RUN, {"zoo": [], "paid": [1]}), "paid")
        with self.assertRaises(TypeError):
            first_parting(RUN, RUN, {}, {}, 500)

    def invalid(self, one, other, choices):
        with self.assertRaises(InvalidChoices) as caught:
            first_parting(one, other, choices, story=3, most=-1)
        return caught.exception.name

    def test_choices_of_two_versions(self):
        """A door or a key of one of them at least, with values of the kind in each that has it."""
        ask = ("ask", "a", "c", "pick", ())
        start = ("run", (1,), 0)
        old = ("run", version_with(ask, ("return", 1)), "ann", 0, start)
        more = ("color", (*COLOR[1], ("Blue", ())))
        new = ("run", Version([module(function("run", ask, ("return", 2)), kinds=(more,), doors=(*DOORS, ("extra", (), "int")), keys=(("paid", "int"),))]), "ann", 0, start)
        red = {A: (("ask", "pick", ()), ("Red",), 0)}
        found = first_parting(old, new, {"pick": [("Red",)], "extra": [3], "num": [4], "paid": []})
        self.assertEqual(found, (red, (None, ("result", 1), ("result", 2))))
        for one, other in ((old, new), (new, old)):
            self.assertEqual(self.invalid(one, other, {"pick": [("Red",), ("Blue",)], "paid": [1]}), "paid")
            self.assertEqual(self.invalid(one, other, {"pick": [("Red",), ("Blue",)], "paid": []}), "pick")
            self.assertEqual(self.invalid(one, other, {"paid": [True]}), "paid")
            self.assertEqual(self.invalid(one, other, {"extra": [True]}), "extra")


class NextValueTest(unittest.TestCase):
    def setUp(self):
        kinds = (("one", (("Oa", ()),)), ("two", (("Ta", ("one", "int", "bool")), ("Tb", ("task", "one")))), ("box", (("Xa", ("int", "one")),)),
                 ("wrap", (("Wa", ("bool", "one", "two")),)), ("none", (("Na", ("one", "one")),)), ("deep", (("Da", ("int", "none")),)))
        self.version = Version([("shop", (), kinds, (), (), (("run", (), (), "int", ()),))])

    def test_each_kind(self):
        zero = ("Ta", ("Oa",), 0, False)
        for kind, value, wanted in (
            ("int", 3, 4), ("int", -1, 0), ("bool", True, False), ("bool", False, True), ("task", "ann", ""), ("task", "", "a"), ("task", "a", ""),
            ("one", ("Oa",), None), ("two", ("Tb", "x", ("Oa",)), zero), ("two", ("Ta", ("Oa",), 0, True), zero), ("two", zero, ("Tb", "", ("Oa",))),
            ("box", ("Xa", 3, ("Oa",)), ("Xa", 0, ("Oa",))), ("box", ("Xa", 0, ("Oa",)), ("Xa", 1, ("Oa",))),
            ("wrap", ("Wa", True, ("Oa",), zero), ("Wa", False, ("Oa",), zero)), ("wrap", ("Wa", False, ("Oa",), zero), ("Wa", False, ("Oa",), ("Tb", "", ("Oa",)))),
            ("none", ("Na", ("Oa",), ("Oa",)), None), ("deep", ("Da", 0, ("Na", ("Oa",), ("Oa",))), ("Da", 1, ("Na", ("Oa",), ("Oa",)))),
        ):
            self.assertEqual(repr(next_value(self.version, kind, value)), repr(wanted), (kind, value))
        self.assertEqual(next_value(version=self.version, kind="int", value=0), 1)

    def test_errors(self):
        for odd in (*ODD, "nope", "Ta"):
            with self.assertRaises(UnknownName) as caught:
                next_value(self.version, odd, odd)
            self.assertIs(caught.exception.name, odd)
        for odd in ODD:
            for kind in ("int", "bool", "task", "two", "one"):
                if not self.version.kinds().is_value(kind, odd):
                    with self.assertRaises(InvalidAnswer) as caught:
                        next_value(self.version, kind, odd)
                    self.assertIs(caught.exception.value, odd)


class RecordWorldsTest(unittest.TestCase):
    def worlds(self, records, line, versions=(SHOP, TALK)):
        text = file_of(*records)
        found = record_worlds(list(versions), text, line)
        if found is not None:
            self.assertTrue(is_record_worlds(list(versions), text, line, found))
            self.assertTrue(is_record_worlds(versions=list(versions), text=text, line=line, value=found))
            other, word, what = found
            for wrong in ((other, word, what, 1), list(found), (other, word), (other, "nope", what), (other, word, 1), (other, None, what)):
                self.assertFalse(is_record_worlds(list(versions), text, line, wrong))
        return found

    def test_answers_to_asks(self):
        started = ("started", "ann", 0, "pay", (3,), 0)
        asked = answered("ann", A, ("ask", "price", (3,)), 7)
        # The next step, the send, is ready in both worlds; what is shown there is not the same.
        other = answered("ann", A, ("ask", "price", (3,)), 8)
        self.assertEqual(self.worlds([started, asked], 2), (other, "shown", ("ann", M)))

    def test_answers_that_part_by_what_is_next(self):
        version = version_with(("ask", "a", "ok", "flag", ()), ("if", "ok", (("ask", "p", "x", "price", (1,)),), (("sleep", "s", 0),)))
        records = [("started", "ann", 0, "run", (1,), 0), answered("ann", A, ("ask", "flag", ()), False)]
        other = answered("ann", A, ("ask", "flag", ()), True)
        self.assertEqual(self.worlds(records, 2, [version]), (other, "next", ("asks", "ann", (0, ("p", 0)))))
        version = version_with(("ask", "a", "ok", "flag", ()), ("if", "ok", (("sleep", "z", 0),), (("sleep", "s", 0),)))
        self.assertEqual(self.worlds(records, 2, [version]), (other, "next", ("ready", "ann", (0, ("s", 0)))))
        version = version_with(("ask", "a", "ok", "flag", ()), ("if", "ok", (("return", 1),), (("return", 2),)))
        self.assertEqual(self.worlds(records, 2, [version]), (other, "next", ("ends", "ann")))
        # The other asks have other args: the one at this index is unlike.
        version = version_with(("ask", "a", "x", "price", (1,)), ("ask", "p", "y", "price", ("x",)))
        records = [records[0], answered("ann", A, ("ask", "price", (1,)), 4)]
        self.assertEqual(self.worlds(records, 2, [version]), (answered("ann", A, ("ask", "price", (1,)), 5), "next", ("asks", "ann", (0, ("p", 0)))))

    def test_answers_that_make_no_difference(self):
        """Without the record the ask is open, so they part by this."""
        version = version_with(("ask", "a", "x", "price", (1,)), ("set", "x", 0), ("sleep", "s", 9))
        records = [("started", "ann", 0, "run", (1,), 0), answered("ann", A, ("ask", "price", (1,)), 4)]
        self.assertEqual(self.worlds(records, 2, [version]), (None, "next", ("asks", "ann", A)))
        one = Version([("shop", (), (("one", (("Oa", ()),)),), (("only", (), "one"),), (), (("run", (), (("x", "one"),), "one", (("ask", "a", "x", "only", ()), ("sleep", "s", 9), ("return", "x"))),))])
        records = [("started", "ann", 0, "run", (), 0), answered("ann", A, ("ask", "only", ()), ("Oa",))]
        self.assertEqual(self.worlds(records, 2, [one]), (None, "next", ("asks", "ann", A)))

    def test_each_word(self):
        self.assertIsNone(self.worlds([("waited", 0)], 1))
        self.assertEqual(self.worlds([("waited", 2)], 1), (None, "kept", None))
        self.assertEqual(self.worlds([("version", 1)], 1), (None, "kept", None))
        self.assertEqual(self.worlds([("started", "ann", 0, "pay", (3,), 0)], 1), (None, "next", ("asks", "ann", A)))
        self.assertIsNone(self.worlds([("moved", (), 0)], 1))
        self.assertEqual(self.worlds([("version", 1), ("moved", (), 1)], 2), (None, "kept", None))
        nap = [("started", "ann", 0, "nap", (5,), 0), ("waited", 5), answered("ann", S, ("sleep", 5), True, 5)]
        self.assertEqual(self.worlds(nap, 1, [TALK]), (None, "shown", ("ann", S)))
        self.assertEqual(self.worlds(nap, 2, [TALK]), (None, "next", ("ready", "ann", S)))
        self.assertEqual(self.worlds(nap, 3, [TALK]), (None, "next", ("ready", "ann", S)))
        self.assertEqual(self.worlds([("started", "ann", 0, "quick", (5,), 0)], 1, [TALK]), (None, "next", ("ends", "ann")))
        turn = [("started", "ann", 0, "turn", (1,), 0), ("waited", 5), answered("ann", S, ("sleep", 5), True, 5), ("became", "ann", "turn", (2,), 5)]
        self.assertEqual(self.worlds(turn, 3, [TALK]), (None, "next", ("ready", "ann", (0,))))
        self.assertEqual(self.worlds(turn, 4, [TALK]), (None, "next", ("ready", "ann", (0,))))
        self.assertIsNone(self.worlds([turn[0], ("frame", "ann", "k", ())], 2, [TALK]))

    def test_the_least_wait_that_is_shown(self):
        body = ("both", "b", (("both", "c", (("sleep", "k", 1),), (("sleep", "l", 1),)),), (("both", "d", (("sleep", "m", 1),), (("both", "e", (("sleep", "p", 1),), (("sleep", "q", 1),)),)),))
        version = version_with(("ask", "a", "x", "price", (1,)), body)
        started = [("started", name, 0, "run", (1,), 0) for name in ("bob", "ann")]
        k = (0, ("b", 0), ("c", 0), ("k", 0))
        for name in ("ann", "bob"):
            asked = answered(name, A, ("ask", "price", (1,)), 4)
            self.assertEqual(self.worlds([*started, asked], 3, [version]), (answered(name, A, ("ask", "price", (1,)), 5), "shown", (name, k)))
        again = version_of(function("run", ("ask", "a", "x", "price", (1,)), body, inner=(("x", "int"), ("z", "int"))))
        records = [*started, *[answered(name, A, ("ask", "price", (1,)), 4) for name in ("ann", "bob")], ("version", 1), ("moved", ("ann", "bob"), 1)]
        self.assertEqual(self.worlds(records, 6, [version, again]), (None, "shown", ("ann", k)))

    def test_sends_and_receives(self):
        records = [("started", "ann", 0, "take", (1,), 0), ("started", "bob", 0, "give", (7, "ann"), 0), answered("bob", M, ("send", "ann", "num", 7), True),
                   answered("ann", R, ("receive", "num"), (("bob", M), 7))]
        self.assertEqual(self.worlds(records, 3, [TALK]), (None, "next", ("ready", "ann", R)))
        self.assertEqual(self.worlds(records, 4, [TALK]), (None, "next", ("ready", "ann", R)))

    def test_moves(self):
        ask = ("ask", "a", "x", "price", (1,))
        old, new = version_with(ask), version_with(ask, ("sleep", "s", 1))
        records = [("started", "ann", 0, "run", (1,), 0), ("version", 1), ("moved", ("ann",), 1)]
        self.assertEqual(self.worlds(records, 3, [old, new]), (None, "kept", None))
        other = version_of(function("run", ask, inner=(("x", "int"), ("z", "int"))))
        self.assertEqual(self.worlds(records, 3, [old, other]), (None, "shown", ("ann", A)))

    def test_the_records_of_a_short_file(self):
        machine = Machine(TALK, SHOP)
        machine.launch("bob", "quick", 1)
        machine.launch("ann", "take", 0)
        machine.launch("dan", "give", 9, "ann")
        machine.launch("eve", "give", 5, "ann")
        machine.wait(2)
        machine.do("dan", M)
        machine.do("eve", M)
        text = short_text(machine)
        versions = [TALK, SHOP]
        k = (0, ("k", 0))
        wanted = [(None, "kept", None), (None, "next", ("ends", "bob")), (None, "shown", ("ann", R)), (None, "next", ("ready", "dan", k)), (None, "next", ("ready", "eve", k)),
                  (None, "next", ("ready", "ann", R)), (None, "kept", None)]
        self.assertEqual([record_worlds(versions, text, line) for line in range(1, 8)], wanted)
        for line, found in enumerate(wanted, start=1):
            self.assertTrue(is_record_worlds(versions, text, line, found))
        self.assertIsNone(record_worlds([TALK], file_of(("at", 0, 1, 0)), 1))

    def test_the_least_in_the_first_list(self):
        records = [("started", name, 0, "pay", (3,), 0) for name in ("zoe", "bob")]
        machine = Machine.of_records([SHOP], records)
        self.assertEqual(len(machine.asks()), 2)
        version = version_with(("both", "b", (("sleep", "z", 0),), (("sleep", "s", 0),)), ("ask", "a", "x", "price", (1,)))
        s, z = (0, ("b", 1), ("s", 0)), (0, ("b", 0), ("z", 0))
        records = [("started", "ann", 0, "run", (1,), 0), answered("ann", s, ("sleep", 0), True), answered("ann", z, ("sleep", 0), True)]
        self.assertEqual(self.worlds(records, 1, [version]), (None, "next", ("ready", "ann", z)))
        self.assertEqual(self.worlds(records, 2, [version]), (None, "next", ("ready", "ann", s)))
        self.assertEqual(self.worlds(records, 3, [version]), (None, "next", ("asks", "ann", A)))

    def test_other_records_that_are_possible(self):
        started = ("started", "ann", 0, "pay", (3,), 0)
        asked = answered("ann", A, ("ask", "price", (3,)), 7)
        text, versions = file_of(started, asked), [SHOP, TALK]

        def true(value, line=2):
            return is_record_worlds(versions, text, line, value)
        self.assertTrue(true((answered("ann", A, ("ask", "price", (3,)), 9), "shown", ("ann", M))))
        self.assertTrue(true((None, "next", ("asks", "ann", A))))
        self.assertTrue(true((("waited", 4), "next", ("asks", "ann", A))))
        self.assertTrue(true((("frame", "ann", "k", ()), "next", ("asks", "ann", A))))
        self.assertTrue(true((("started", "abe", 0, "pay", (3,), 0), "next", ("asks", "abe", A))))
        self.assertTrue(true((("version", 1), "next", ("asks", "ann", A))))
        self.assertTrue(true((("started", "ann", 0, "pay", (4,), 0), "next", ("asks", "ann", A)), 1))
        self.assertTrue(true((("at", 3, 1, 0), "next", ("asks", "ann", A)), 1))
        for wrong in (
            (asked, "kept", None), (asked, "shown", ("ann", M)), (answered("ann", A, ("ask", "price", (3,)), True), "shown", ("ann", M)),
            (answered("ann", A, ("ask", "price", (3,)), 9), "next", ("asks", "ann", A)), (answered("ann", A, ("ask", "price", (3,)), 9), "kept", None),
            (started, "next", ("asks", "ann", A)), (("version", 2), "next", ("asks", "ann", A)), (("at", 3, 1, 0), "next", ("asks", "ann", A)),
            (None, "next", ("ready", "ann", M)), (None, "next", ["asks", "ann", A]), (None, "shown", ("ann", M)), (("waited", True), "next", ("asks", "ann", A)),
            (None, "next", ("asks", "ann", (False, ("a", 0)))), (("nope",), "next", ("asks", "ann", A)), (1, "next", ("asks", "ann", A)),
        ):
            self.assertFalse(true(wrong), wrong)
        for odd in ODD:
            for value in (odd, (odd, "next", ("asks", "ann", A)), (None, odd, ("asks", "ann", A)), (None, "next", odd)):
                if odd is not None or value == (None, "next", None) or value is None:
                    self.assertFalse(true(value))

    def test_idle_records_have_none(self):
        text = file_of(("waited", 0))
        for value in (None, (None, "kept", None), (("waited", 3), "kept", None)):
            self.assertFalse(is_record_worlds([SHOP], text, 1, value))

    def test_worlds_that_are_equal_are_none(self):
        version = version_with(("ask", "a", "x", "price", (1,)))
        records = [("started", "ann", 0, "run", (1,), 0), ("version", 1), ("moved", (), 1), ("moved", ("ann",), 0)]
        text = file_of(*records)
        self.assertTrue(is_record_worlds([version, version], text, 4, (None, "kept", None)))
        self.assertTrue(is_record_worlds([version, version], text, 4, (("moved", ("ann",), 1), "kept", None)))
        self.assertFalse(is_record_worlds([version, version], text, 4, (("moved", (), 0), "kept", None)))

    def test_errors(self):
        records = [("waited", 1), ("waited", 2)]
        text = file_of(*records)
        for call in (record_worlds, lambda versions, text, line: is_record_worlds(versions, text, line, None)):
            for odd in (*ODD, 3, -1):
                if type(odd) is not int or odd not in (1, 2):
                    with self.assertRaises(InvalidCount) as caught:
                        call([SHOP], text, odd)
                    self.assertIs(caught.exception.value, odd)
                with self.assertRaises(InvalidLog) as found:
                    call([SHOP], file_of(*records, ("waited", 1)), odd)
                self.assertEqual(found.exception.line, 3)
            with self.assertRaises(InvalidCount):
                call([SHOP], text + "3 1 (", 3)
            with self.assertRaises(InvalidCount):
                call([SHOP], "", 1)

    def test_by_chance(self):
        """A record is idle exactly if all goes on without it; otherwise its worlds are what they are said to be."""
        words = {"next": 0, "shown": 0, "kept": 0, None: 0}
        for seed in range(10):
            versions, chance = random_life(seed)
            machine = Machine(versions[0])
            for _ in range(15):
                operation, version = random_operation(machine, chance, versions)
                machine.perform(operation, version)
            text, records = file_of(*machine.records()), machine.records()
            for line in range(1, len(records) + 1):
                found = self.worlds(records, line, versions)
                words[None if found is None else found[1]] += 1
                here, without = recover(versions, file_of(*records[:line])), recover(versions, file_of(*records[:line - 1]))
                self.assertEqual(found is None, here == without)
                if found is not None:
                    other, word, what = found
                    there = without if other is None else recover(versions, file_of(*records[:line - 1], other))
                    self.check(here, there, word, what)
                self.assertEqual(record_worlds(versions, text, line), found)
        self.assertTrue(all(words.values()), words)

    def check(self, here, there, word, what):
        lists = [("asks", here.asks(), there.asks()), ("ready", here.ready(), there.ready()), ("ends", self.ends(here), self.ends(there))]
        unlike = [one for one in lists if repr(one[1]) != repr(one[2])]
        if word == "next":
            name, ours, theirs = unlike[0]
            rows = [row for row in ours if repr(row) not in map(repr, theirs)] + [row for row in theirs if repr(row) not in map(repr, ours)]
            self.assertEqual(what, (name, *min(row[:1 if name == "ends" else 2] for row in rows)))
            return
        self.assertEqual(unlike, [])
        frames = [{(name, index): repr([(*frame[:2], sorted(frame[2].items())) for frame in one.run(name).frames(index)])
                   for name in one.names() for index in one.run(name).waits()} for one in (here, there)]
        places = sorted(place for place in {**frames[0], **frames[1]} if frames[0].get(place) != frames[1].get(place))
        self.assertEqual((word, what), ("shown", places[0]) if places else ("kept", None))

    def ends(self, machine):
        return [(name, machine.task(name).end()) for name in machine.names(living=False)]


class LeftWorldsTest(unittest.TestCase):
    def test_a_misfit(self):
        old, new = version_with(("sleep", "s", 1)), version_with(("sleep", "s", 2))
        story = {S: (("sleep", 1), True, 0)}
        old = version_with(("sleep", "s", 1), ("sleep", "z", 1))
        population = {"ann": (old, ("ann", 0, ("run", (1,), 0), story)), "bob": (old, ("bob", 0, ("walk", (1,), 0), {}))}
        population["bob"] = (version_of(function("walk", ("sleep", "s", 1))), ("bob", 0, ("walk", (1,), 0), {}))
        self.assertEqual(left_worlds(population, [], new, ["ann", "bob"], "ann"), ("misfit", (S, None, ("different", "question", ("sleep", 2)))))
        self.assertEqual(left_worlds(population=population, unread=[], new=new, names=["bob"], name="bob"), ("misfit", None))

    def test_a_misfit_whose_runs_do_not_part(self):
        """A door with another kind: the runs ask the same."""
        old = version_with(("ask", "a", "x", "price", (1,)))
        new = Version([("shop", (), (), (("price", ("int",), "bool"),), (), (("run", (("n", "int"),), (("x", "bool"),), "int", (("ask", "a", "x", "price", (1,)),)),))])
        population = {"ann": (old, ("ann", 0, ("run", (1,), 0), {A: (("ask", "price", (1,)), None, None)}))}
        self.assertEqual(greatest(population, [], new, ["ann"])[1]["ann"][1][0], "door")
        self.assertEqual(left_worlds(population, [], new, ["ann"], "ann"), ("misfit", None))

    def test_a_message(self):
        old, new = version_with_keys(INT, talker("fa", "-a")), version_with_keys(BOOL, talker("fa", "-a", kind="bool"))
        population = {"ann": placed(old, "ann", "fa")}
        unread = [(("x", M), "ann", "ka", True), (("y", M), "ann", "ka", 5), (("z", M), "ann", "ka", 6)]
        self.assertEqual(left_worlds(population, unread, new, ["ann"], "ann"), ("held", "int", "bool", 5))
        fewer = version_with_keys(INT[1:], talker("fa"))
        population = {"ann": placed(fewer, "ann", "fa")}
        self.assertEqual(left_worlds(population, unread, new, ["ann"], "ann"), ("held", None, "bool", 5))

    def test_chains_and_newcomers(self):
        old = version_with_keys(INT, talker("fa", "+a", "+a"), talker("fb", "-a", "+b"), talker("fc", "-b", "-b"))
        new = version_with_keys(BOOL, talker("fa", "+a", "+a", kind="bool"), talker("fb", "-a", "+b", kind="bool"))
        population = {"ann": placed(old, "ann", "fa"), "bob": placed(old, "bob", "fb"), "eve": placed(old, "eve", "fc")}
        one = ("ka", "bob", ("send", "ka", "fa", "la"), ("receive", "ka", "fb", "la"))
        two = ("kb", "eve", ("send", "kb", "fb", "lb"), ("receive", "kb", "fc", "la"))
        names = ["ann", "bob", "eve"]
        self.assertEqual(left_worlds(population, [], new, names, "ann"), ("chain", (one, two)))
        self.assertEqual(left_worlds(population, [], new, names, "bob"), ("chain", (two,)))
        self.assertEqual(left_worlds(population, [], new, names, ""), ("chain", (two,)))

    def test_errors(self):
        population, unread, new, names = line_of_talkers(1)
        moved, reasons = greatest(population, unread, new, names)
        with self.assertRaises(NotFound) as caught:
            left_worlds(population, unread, new, ["zzz", "xxx"], 3)
        self.assertEqual(caught.exception.value, "xxx")
        for odd in (*ODD, "zzz", *[name for name in population if name not in reasons]):
            if not isinstance(odd, str) or odd not in reasons:
                with self.assertRaises(NotFound) as caught:
                    left_worlds(population, unread, new, names, odd)
                self.assertIs(caught.exception.value, odd)
        self.assertRaises(NotFound, left_worlds, {}, [], new, [], "")

    def test_by_chance(self):
        words = {"misfit": 0, "held": 0, "chain": 0}
        for seed in range(150):
            population, unread, new, names = line_of_talkers(seed) if seed % 3 == 0 else random_population(seed)
            _, reasons = greatest(population, unread, new, names)
            for name, (word, told) in reasons.items():
                found = left_worlds(population, unread, new, names, name)
                words[word] += 1
                self.assertEqual(found[0], word)
                if word == "misfit" and told != ("start",):
                    version, (task, epoch, start, story) = population[name]
                    self.assertEqual(found[1], parting(("run", version, task, epoch, start), ("run", new, task, epoch, start), story))
                elif word == "held":
                    _, _, key, value = [message for message in unread if message[0] == told][0]
                    self.assertEqual((found[2], found[3]), (new.key(key), value))
                    self.assertFalse(new.kinds().is_value(found[2], value))
                elif word == "chain":
                    self.assertEqual(tuple(link[:2] for link in found[1]), told)
                    former = name
                    for key, other, one, two in found[1]:
                        ours = newcomers(new) if former == "" else may_still(new, population[former][1])
                        theirs = may_still(*population[other])
                        pairs = [(a, b) for a in ours for b in theirs if a[1] == b[1] == key and a[0] != b[0]]
                        self.assertEqual((one, two), min(pairs))
                        former = other
        self.assertTrue(all(words.values()), words)


if __name__ == "__main__":
    unittest.main()
