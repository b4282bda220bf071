"""heldover.flows: needed slots, flows and least frames."""

import unittest
from random import Random

from heldover.codes import is_code
from heldover.compiler import compiled_all
from heldover.errors import InvalidCode, InvalidCodes, InvalidFrame, NoFrame, NoPoint, NoSlot, Stuck
from heldover.execution import Execution
from heldover.flows import flow, is_flow, least_frame, needed_slots
from heldover.pipelines import Pipeline, optimized
from tests.anything import ODD
from tests.mutations import mutated
from tests.programs import random_start, random_version
from tests.test_execution import DOUBLE, START, slot, value
from tests.test_runs import VERSION
from tests.watching import stories

WAITING = ("call", "ask", "send", "receive", "sleep", "start", "mark", "both")


def slots_of(operation):
    """The slots that an operation, or an operand, reads."""
    if operation[0] in ("slot", "value"):
        return {operation[1]} if operation[0] == "slot" else set()
    return {one[1] for one in operation[1:] if isinstance(one, tuple) and one[0] == "slot"}


class Words:
    """[94] and [95], written out pair by pair."""

    def __init__(self, code):
        self.slots, self.rows = set(range(code[2])), code[3]
        self.standing = []
        for number, (_, _, end) in enumerate(self.rows):
            if end[0] == "both":
                for body in (0, 1):
                    found, waiting = {end[1 + body]}, [end[1 + body]]
                    while waiting:
                        for block, _ in self.inner(waiting.pop()):
                            if block not in found:
                                found.add(block)
                                waiting.append(block)
                    self.standing.append((number, body, found))

    def inner(self, block):
        """The ways (block, set slots) other than into bodies and out of them."""
        end = self.rows[block][2]
        word = end[0]
        if word == "jump":
            return [(end[1], set())]
        if word == "branch":
            return [(end[2], set()), (end[3], set())]
        if word == "mark":
            return [(end[1], set()), (end[2], set())]
        if word in ("send", "sleep"):
            return [(end[-1], set())]
        given = set() if word not in ("ask", "receive", "start", "call") or end[1] is None else {end[1]}
        if word in ("ask", "receive", "start"):
            return [(end[-1], given)]
        if word == "call":
            return [(end[4], given)] + [(handler, set()) for _, handler in end[5]]
        if word == "both":
            taken = set(end[3]) | set(end[4])
            return [(target, taken) for target in [end[5], *[handler for _, handler in end[6]]]]
        return []

    def out(self, block, lost, seen):
        """The ways out of the bodies in which a block stands."""
        found = []
        for both, body, blocks in self.standing:
            if block in blocks:
                end = self.rows[both][2]
                more = lost | (self.slots - set(end[3 + body]))
                if (both, frozenset(more)) in seen:
                    continue
                seen.add((both, frozenset(more)))
                found += [(target, more) for target in [end[5], *[handler for _, handler in end[6]]]]
                found += self.out(both, more, seen)
        return found

    def ways(self, block, entered=False):
        end = self.rows[block][2]
        found = list(self.inner(block))
        if end[0] == "both" and not entered:
            found += [(end[1], set()), (end[2], set())]
        if end[0] in ("done", "raise", "call", "both"):
            found += self.out(block, set(end[3]) | set(end[4]) if end[0] == "both" else set(), set())
        return found

    def reached(self, block, one):
        found = {one}
        for given, operation in self.rows[block][1]:
            if slots_of(operation) & found:
                found.add(given)
            else:
                found.discard(given)
        return found

    def counts(self, block, one, entered=False):
        place, _, end = self.rows[block]
        word = end[0]
        read = set()
        if not entered:
            operands = {"branch": end[1:2], "return": end[1:2], "sleep": end[1:2], "send": end[1:4:2]}.get(word, ())
            if word in ("call", "ask", "start"):
                operands = end[3]
            if word == "become":
                operands = end[2]
            for operand in operands:
                read |= slots_of(operand)
        if word in WAITING and (not entered or word == "call"):
            read |= {number[1] for _, number in place if isinstance(number, tuple)}
        return bool(self.reached(block, one) & read)

    def flows(self, block, one, entered=False):
        found = self.reached(block, one)
        return {(target, other) for target, lost in self.ways(block, entered) for other in found - lost}

    def needed(self):
        """All pairs (block, slot) that are needed, each with the length of its shortest flows."""
        pairs = [(block, one) for block in range(len(self.rows)) for one in sorted(self.slots)]
        leads = {pair: self.flows(*pair) for pair in pairs}
        found = {pair: 1 for pair in pairs if self.counts(*pair)}
        length = 1
        while True:
            more = [pair for pair in pairs if pair not in found and any(found.get(one) == length for one in leads[pair])]
            if not more:
                return found, leads
            length += 1
            found.update({pair: length for pair in more})

    def least_flow(self, pair, found, leads):
        path = [pair]
        for length in range(found[pair] - 1, 0, -1):
            path.append(min(one for one in leads[path[-1]] if found.get(one) == length))
        return path


def block(end, *steps, place=None):
    return (place, steps, end)


BODY = (("b", 0),)


def coded(slots, *blocks):
    code = ("run", 0, slots, blocks)
    assert is_code(code)
    return code


class NeededTest(unittest.TestCase):
    def test_the_example(self):
        self.assertEqual([needed_slots(DOUBLE, 0), needed_slots(DOUBLE, 1), flow(DOUBLE, 0, 0), flow(DOUBLE, 1, 0)], [[0], [1], [(0, 0), (1, 1)], None])

    def test_every_kind_of_end(self):
        for end, wanted in (
            (("jump", 1), [5]), (("branch", slot(0), 1, 2), [0, 5]), (("return", slot(0)), [0]), (("raise", "dear"), []),
            (("become", "run", (slot(0), slot(3))), [0, 3]), (("send", slot(0), "paid", slot(1), 1), [0, 1, 5, 9]), (("sleep", slot(2), 1), [2, 5, 9]),
            (("ask", 5, "price", (slot(1), value(3)), 1), [1, 9]), (("ask", None, "price", (), 1), [5, 9]), (("receive", 5, "paid", 1), [9]), (("receive", 4, "paid", 1), [5, 9]),
            (("start", 5, "run", (slot(5),), 1), [5, 9]), (("mark", 1, 2), [5, 9]), (("call", 5, "run", (slot(2),), 1, (("dear", 2),)), [2, 9]),
            (("call", 5, "run", (slot(2),), 1, (("dear", 1),)), [2, 5, 9]),
        ):
            waits = end[0] in WAITING
            code = coded(10, ((), (), ("jump", 3)), block(("return", slot(5))), block(("return", value(1))), block(end, place=(("k", slot(9)), ("a", 0)) if waits else None))
            self.assertEqual(needed_slots(code, 3), wanted, end)

    def test_entered(self):
        call = ("call", 5, "run", (slot(2),), 1, (("dear", 2),))
        code = coded(10, ((), (), ("jump", 3)), block(("return", slot(6))), block(("return", slot(5))), block(call, place=(("k", slot(9)), ("a", 0))))
        self.assertEqual((needed_slots(code, 3), needed_slots(code, 3, entered=True)), ([2, 5, 6, 9], [5, 6, 9]))

    def both(self, one, other, taken=((), ()), errors=(), behind=("return", slot(7)), place=(("k", slot(9)),)):
        """Block 1 is a both, 2 and 3 the first blocks of its bodies, 4 behind it, 5 for an error, 6 and 7 the ends of the bodies."""
        where = (*place, ("b", 0))
        return coded(10, ((), (), ("jump", 1)), block(("both", 2, 3, *taken, 4, errors), place=where), one, other,
                     block(behind, place=(*place, ("b", 2))), block(("return", slot(8)), place=(("t", 1),)),
                     block(("done",), place=(*place, ("b", 3))), block(("done",), place=(*place, ("b", 4))))

    def test_boths(self):
        one, other = block(("sleep", slot(0), 6), place=(("b", 0), ("s", 0))), block(("sleep", slot(1), 7), place=(("b", 1), ("s", 0)))
        code = self.both(one, other, errors=(("dear", 5),))
        self.assertEqual(needed_slots(code, 1), [0, 1, 7, 8, 9])
        self.assertEqual(needed_slots(code, 1, entered=True), [7, 8])
        self.assertEqual((needed_slots(code, 2), needed_slots(code, 3), needed_slots(code, 6)), ([0], [1], []))
        taken = self.both(one, other, ((7, 2), (8,)), (("dear", 5),))
        self.assertEqual(needed_slots(taken, 1), [0, 1, 7, 8, 9])
        self.assertEqual(needed_slots(taken, 1, entered=True), [])
        self.assertEqual([needed_slots(taken, number) for number in (2, 3, 6, 7)], [[0, 7], [1, 8], [7], [8]])

    def test_ways_out_of_bodies(self):
        """A body may end at a done, a raise, a call and a both that stands in it."""
        done = block(("done",))
        for one, wanted in (
            (block(("raise", "dear")), [7]), (block(("done",)), [7]), (block(("call", 7, "run", (), 6, ()), place=(("b", 0), ("c", 0))), [7]),
            (block(("call", 3, "run", (), 6, ()), place=(("b", 0), ("c", 0))), [7]), (block(("sleep", value(1), 6), place=(("b", 0), ("s", 0))), [7]),
            (block(("jump", 2)), []), (block(("return", value(1))), []),
        ):
            code = self.both(one, done, ((7,), ()))
            self.assertEqual(needed_slots(code, 2), wanted, one)
            self.assertEqual(needed_slots(self.both(one, done), 2), [])

    def test_boths_within_boths(self):
        inner = (("b", 0), ("i", 0))
        code = coded(
            10, ((), (), ("jump", 1)), block(("both", 2, 3, (0, 1, 2), (), 4, ()), place=(("b", 0),)),
            block(("both", 5, 6, (1, 7), (3,), 7, ()), place=inner), block(("done",)), block(("become", "run", (slot(0), slot(1), slot(2), slot(7))), place=(("b", 2),)),
            block(("done",)), block(("raise", "dear")), block(("jump", 5), place=(("b", 0), ("i", 2))))
        # Behind the inner both its own slots 1, 7 and 3 come from its bodies, and only 0, 1 and 2 come out of the outer one.
        # Block 5 stands in the first body of the inner both, and behind it in the first body of the outer one.
        self.assertEqual([needed_slots(code, number) for number in (1, 2, 5, 6, 7)], [[0, 1, 2, 7], [0, 1, 2], [0, 1, 2], [], [0, 1, 2]])
        self.assertEqual(needed_slots(code, 2, entered=True), [0, 2])
        self.assertEqual(needed_slots(code, 1, entered=True), [7])

    def test_steps(self):
        code = coded(4, block(("return", slot(1)), (1, ("add", slot(0), slot(2))), (3, slot(1)), place=()))
        self.assertEqual(needed_slots(code, 0), [0, 2])
        code = coded(4, block(("return", slot(1)), (3, ("add", slot(0), slot(2))), (1, slot(1)), place=()))
        self.assertEqual(needed_slots(code, 0), [1])
        code = coded(4, block(("return", slot(1)), (1, ("self",)), (2, slot(0)), place=()))
        self.assertEqual(needed_slots(code, 0), [])

    def test_errors(self):
        for odd in ODD:
            for call in (needed_slots, flow, is_flow):
                with self.assertRaises(InvalidCode) as caught:
                    call(odd, odd, *([odd] if call is flow else []))
                self.assertIs(caught.exception.value, odd)
            if type(odd) is not int or not 0 <= odd < 3:
                for call in (lambda: needed_slots(DOUBLE, odd), lambda: needed_slots(DOUBLE, odd, entered=True), lambda: flow(DOUBLE, odd, odd)):
                    with self.assertRaises(NoPoint) as caught:
                        call()
                    self.assertIs(caught.exception.value, odd)
            if type(odd) is not int or not 0 <= odd < 2:
                with self.assertRaises(NoSlot) as caught:
                    flow(DOUBLE, 1, odd)
                self.assertIs(caught.exception.slot, odd)
        for number in range(3):
            with self.assertRaises(NoPoint) as caught:
                needed_slots(code=DOUBLE, block=number, entered=True)
            self.assertEqual(caught.exception.value, number)
        self.assertRaises(NoPoint, needed_slots, DOUBLE, 3)
        self.assertRaises(NoSlot, flow, DOUBLE, 0, 2)
        with self.assertRaises(TypeError):
            needed_slots(DOUBLE, 0, True)


class FlowTest(unittest.TestCase):
    def test_the_least_of_the_shortest(self):
        # Two ways of one length, and a longer one.
        code = coded(6, block(("branch", value(True), 1, 2), (1, slot(0)), (2, slot(0)), place=()), block(("jump", 3), (3, slot(2)), (4, slot(1))),
                     block(("jump", 1)), block(("become", "run", (slot(3), slot(4)))))
        self.assertEqual(flow(code=code, block=0, slot=0), [(0, 0), (1, 1), (3, 4)])
        self.assertEqual(flow(code, 2, 2), [(2, 2), (1, 2), (3, 3)])
        self.assertEqual((flow(code, 3, 3), flow(code, 3, 5), flow(code, 0, 5)), ([(3, 3)], None, None))

    def test_cycles(self):
        code = coded(3, block(("jump", 1), place=()), block(("branch", slot(0), 1, 2), (0, slot(1)), (1, slot(2))), block(("return", value(1))))
        self.assertEqual((flow(code, 0, 0), flow(code, 0, 1), flow(code, 0, 2)), (None, [(0, 1), (1, 1)], [(0, 2), (1, 2), (1, 1)]))

    def test_is_flow(self):
        code = coded(3, block(("jump", 1), place=()), block(("branch", slot(0), 1, 2), (0, slot(1)), (1, slot(2))), block(("return", value(1))))
        good = [(0, 2), (1, 2), (1, 2), (1, 2), (1, 1)]
        for one in (good, tuple(good), [(1, 1)], [(0, 1), (1, 1)], good[2:]):
            self.assertTrue(is_flow(code, one))
        self.assertTrue(is_flow(code=code, value=good))
        for wrong in ([], (), good[:-1], good[1::-1], [list(pair) for pair in good], [(0, 2), (1, 1)], [(1, 0)], [(0, 0)], [(1, 1, 1)], [(True, 1)], [(1, True)], [(3, 0)], [(1, 3)],
                      [(1, 1), (1, 1)], {(1, 1): 0}, {(1, 1)}, (1, 1), [(1, -2)]):
            self.assertFalse(is_flow(code, wrong), wrong)
        for odd in ODD:
            self.assertFalse(is_flow(code, odd))
            self.assertFalse(is_flow(code, [odd]))
            self.assertFalse(is_flow(code, [(odd, 0)]))
            self.assertFalse(is_flow(code, [(1, 1), odd]))

    def agree(self, code):
        words = Words(code)
        found, leads = words.needed()
        for number in range(len(code[3])):
            needed = needed_slots(code, number)
            self.assertEqual(needed, sorted(one for at, one in found if at == number))
            if code[3][number][2][0] in ("call", "both"):
                inside = [one for one in range(code[2]) if words.counts(number, one, True) or words.flows(number, one, True) & set(found)]
                self.assertEqual(needed_slots(code, number, entered=True), inside)
            for one in range(code[2]):
                told = flow(code, number, one)
                self.assertEqual(told is not None, one in needed)
                if told is not None:
                    self.assertEqual(told, words.least_flow((number, one), found, leads))
                    self.assertTrue(is_flow(code, told))

    def test_by_chance(self):
        for seed in range(6):
            version = random_version(seed)
            for codes in (compiled_all(version)[0], optimized(version, Pipeline.standard("1", "2"))[0]):
                small = [code for code in codes.values() if len(code[3]) < 40]
                for code in small[:2]:
                    self.agree(code)

    def test_codes_with_one_thing_changed(self):
        count = 0
        for seed in range(40):
            chance = Random(seed)
            codes, maps = compiled_all(random_version(seed))
            name = min(codes, key=lambda one: (sum(end[0] != "both" for _, _, end in codes[one][3]), len(codes[one][3])))
            code, code_map = codes[name], maps[name]
            for _ in range(3):
                code, code_map = (mutated(chance, code, code_map) or (code, code_map))[:2]
            if is_code(code) and len(code[3]) < 40:
                self.agree(code)
                count += 1
        self.assertGreater(count, 10)

    def test_strange_codes(self):
        """Bodies that lead into themselves, into each other, and to the both around."""
        for ends in (
            (("jump", 1), ("jump", 1)), (("jump", 3), ("jump", 2)), (("jump", 4), ("done",)), (("raise", "dear"), ("jump", 1)),
            (("return", slot(1)), ("branch", slot(0), 1, 3)),
        ):
            code = coded(3, ((), (), ("jump", 1)), block(("both", 2, 3, (0,), (1,), 4, (("dear", 4),)), place=(("b", 0),)), block(ends[0], (0, slot(1))), block(ends[1]),
                         block(("become", "run", (slot(0), slot(2))), place=(("b", 2),)))
            self.agree(code)


class LeastFrameTest(unittest.TestCase):
    def test_a_plain_frame(self):
        codes = {"buy": DOUBLE}
        self.assertEqual(least_frame(codes, ("buy", ((3, 6), 1, None))), ("buy", ((None, 6), 1, None)))
        self.assertEqual(least_frame(codes=codes, frame=("buy", ((3, None), 1, None))), ("buy", ((None, None), 1, None)))

    def test_ended_bodies_stay(self):
        codes, _ = compiled_all(VERSION)
        story = {(0, ("a", 0)): (("ask", "price", (3,)), 7, 12), (0, ("b", 0), ("w", 0)): (("sleep", 5), True, 20)}
        name, (slots, number, (one, other)) = Execution(VERSION, codes, "ann", 0, START, story).frame()
        self.assertEqual(one[0], "ended")
        found = least_frame(codes, (name, (slots, number, (one, other))))
        self.assertEqual(found[1][2][0], one)
        self.assertEqual([found[1][1], found[1][2][1][1]], [number, other[1]])
        self.assertEqual([at for at, held in enumerate(found[1][0]) if held is not None],
                         [at for at in needed_slots(codes[name], number, entered=True) if slots[at] is not None])

    def test_errors(self):
        for odd in ODD:
            if not isinstance(odd, dict) or odd:
                with self.assertRaises(InvalidCodes) as caught:
                    least_frame(odd, odd)
                self.assertIsNone(caught.exception.name)
            with self.assertRaises(InvalidFrame) as caught:
                least_frame({"buy": DOUBLE}, odd)
            self.assertIs(caught.exception.value, odd)
        with self.assertRaises(InvalidFrame):
            least_frame({"buy": DOUBLE}, ("buy", ((3, 6), 0, None)))

    def filled(self, frame, least, chance):
        """A frame with other data in the slots that the least one leaves out."""
        if isinstance(frame[0], str) and frame[0] != "ended":
            return (frame[0], self.filled(frame[1], least[1], chance))
        if frame[0] == "ended":
            return frame
        # A slot that is needed may hold nothing in the whole frame, too.
        data = (None, 0, 5, True, "x", ("Red",), ("Foo", 1))
        slots = tuple(chance.choice(data) if held is None and was is not None else held for held, was in zip(least[0], frame[0]))
        inner = frame[2]
        if inner is None:
            return (slots, frame[1], None)
        if isinstance(inner[0], str):
            return (slots, frame[1], self.filled(inner, least[2], chance))
        return (slots, frame[1], tuple(self.filled(body, other, chance) for body, other in zip(inner, least[2])))

    def shown(self, version, codes, frame, story):
        try:
            done = Execution.from_frame(version, codes, "ann", 0, frame, story)
        except Stuck as error:
            return ("stuck", error.name, error.block)
        return (done.waits(), done.differences(), done.end(), done.come_to(), done.passed(), done.blocks_done)

    def test_executions_go_on_in_the_same_way(self):
        less = 0
        for seed in range(30):
            version, chance = random_version(seed), Random(seed)
            start = random_start(version, seed)
            for codes in (compiled_all(version)[0], optimized(version, Pipeline.standard("1", "lca"))[0]):
                told = list(stories(version, start, chance, 2, 0.03, 8))
                for at, story in enumerate(told):
                    try:
                        frame = Execution(version, codes, "ann", 0, start, story).frame()
                    except NoFrame:
                        continue
                    least = least_frame(codes, frame)
                    less += repr(least).count("None") > repr(frame).count("None")
                    other = self.filled(frame, least, chance)
                    for longer in told[at:at + 4]:
                        if not all(longer.get(index) == entry for index, entry in story.items()):
                            continue
                        wanted = self.shown(version, codes, frame, longer)
                        self.assertEqual(self.shown(version, codes, least, longer), wanted)
                        self.assertEqual(self.shown(version, codes, other, longer), wanted)
                    self.assertEqual(least_frame(codes, least), least)
                    self.assertEqual(least_frame(codes, other), least)
        self.assertGreater(less, 100)


if __name__ == "__main__":
    unittest.main()
