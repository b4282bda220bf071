"""heldover.codes: the form of codes, each rule kept and broken."""

import unittest

from heldover.codes import is_code, is_codes, points, waiting
from heldover.errors import InvalidCode
from tests.anything import ODD, nested, tagged

DOUBLE = ("buy", 1, 2, (
    ((), ((1, ("add", ("slot", 0), ("slot", 0))),), ("jump", 1)),
    ((("a", 0),), (), ("ask", 1, "price", (("slot", 1),), 2)),
    (None, (), ("return", ("slot", 1))),
))
HALT = (None, (), ("return", ("value", 0)))
VALUE = ("value", 1)
HERE = (("a", 0),)


def code(*blocks, slots=3, parameters=0, entry=((), (), ("jump", 1))):
    """A code with these blocks behind block 0."""
    return ("run", parameters, slots, (entry, *blocks))


def both_code(place=(("k", 0), ("b", 0)), behind=(("k", 0), ("b", 2)), ours=(0,), theirs=(1,), errors=(), handler=(("h", 1),),
              done=None, steps=()):
    """A code with a both, its bodies, the block behind it, and a block for an error."""
    return code(
        (place, steps, ("both", 2, 3, ours, theirs, 4, errors)), (None, (), ("done",)), (done, (), ("done",)),
        (behind, (), ("return", VALUE)), (handler, (), ("return", VALUE)))


class FormTest(unittest.TestCase):
    def good(self, *values):
        for value in values:
            self.assertIs(is_code(value), True)
            self.assertIs(is_codes({"run": value}), True)
            points(value)
            waiting(value)

    def bad(self, *values):
        for value in values:
            self.assertIs(is_code(value), False)
            self.assertIs(is_codes({"run": value}), False)
            for call in (points, waiting):
                with self.assertRaises(InvalidCode) as caught:
                    call(value)
                self.assertIs(caught.exception.value, value)

    def step(self, operation, slot=0):
        return code(HALT, entry=((), ((slot, operation),), ("jump", 1)))

    def end(self, end, place=None, **more):
        return code((place, (), end), HALT, **more)


class StepsTest(FormTest):
    def test_operations(self):
        self.good(self.step(("slot", 2)), self.step(("value", 5)), self.step(("self",)), self.step(("not", VALUE)))
        for word in ("add", "sub", "mul", "div", "mod", "less", "same", "and", "or"):
            self.good(self.step((word, VALUE, ("slot", 1))))
            self.bad(self.step((word, VALUE)), self.step((word, VALUE, VALUE, VALUE)), self.step([word, VALUE, VALUE]),
                     self.step((word, 1, VALUE)), self.step((word, VALUE, ("slot", 3))), self.step((word, VALUE, ("add", VALUE, VALUE))))
        self.bad(self.step(("xor", VALUE, VALUE)), self.step(("call", VALUE, VALUE)), self.step(("slot", VALUE, VALUE)))
        self.bad(self.step(("self", 1)), self.step(("not",)), self.step(("not", VALUE, VALUE)), self.step(("neg", VALUE)))
        self.bad(self.step(("var", (), "x")), self.step(("round", (), "k")), self.step(("answer",)), self.step(()), self.step(("slot",)))

    def test_tags_and_parts(self):
        for count in range(4):
            self.good(self.step(("tag", "Red", *[VALUE] * count)))
        self.bad(self.step(("tag", "Red", 1)), self.step(("tag", "Red", VALUE, ("slot", 3))), self.step(("part", 0, 1)),
                 self.step(("part", 0, ("slot", 3))), self.step(("is", "Red", ("slot", 3))), self.step(("not", 1)))
        self.bad(self.step(("tag", "Red", *[VALUE] * 4)), self.step(("tag",)), self.step(("tag", "red")), self.step(("tag", VALUE)))
        self.good(self.step(("is", "Red", VALUE)))
        self.bad(self.step(("is", "Red")), self.step(("is", "red", VALUE)), self.step(("is", VALUE, "Red")),
                 self.step(("is", "Red", VALUE, VALUE)), self.step(("is", "Red", 1)))
        for number in range(3):
            self.good(self.step(("part", number, VALUE)))
        self.bad(self.step(("part", 3, VALUE)), self.step(("part", -1, VALUE)), self.step(("part", True, VALUE)),
                 self.step(("part", "0", VALUE)), self.step(("part", 0)), self.step(("part", 0, VALUE, VALUE)))

    def test_operands(self):
        for datum in (0, True, "", ("Red",), tagged(12)):
            self.good(self.step(("value", datum)))
        for value in (None, (), [], tagged(13), tagged(1200), nested(1200), "%", ("red",)):
            self.bad(self.step(("value", value)))
        for slot in (3, 99, 100, -1, True, False, "0", None):
            self.bad(self.step(("slot", slot)), self.step(("not", ("slot", slot))), self.step(VALUE, slot))
        self.bad(self.step(("value",)), self.step(("value", 1, 1)), self.step(["value", 1]), self.step(("values", 1)))

    def test_form_of_steps(self):
        for steps in ([(0, VALUE)], ([0, VALUE],), ((0, VALUE, 1),), ((0,),), (0, VALUE), None):
            self.bad(code(HALT, entry=((), steps, ("jump", 1))))
        self.good(code(HALT, entry=((), ((0, VALUE),) * 400, ("jump", 1))))
        self.bad(code(HALT, entry=((), ((0, VALUE),) * 401, ("jump", 1))))


class BlocksTest(FormTest):
    def test_places(self):
        for place in ((), (("a", 0),), (("a", 9), ("99", ("slot", 2))), (("a", 5),) * 20):
            self.good(self.end(("jump", 2), place))
        for place in ([], (("a", 5),) * 21, (("a", 10),), (("a", -1),), (("a", True),), (("a", None),), (("A", 0),), (("", 0),),
                      (("0", 0),), (("100", 0),), (["a", 0],), (("a",),), (("a", 0, 0),), ("a", 0), (("a", ("slot", 3)),),
                      (("a", ("slot", True)),), (("a", ("value", 0)),), (("a", ["slot", 0]),), nested(1200), 5, "a"):
            self.bad(self.end(("jump", 2), place))

    def test_jumps_and_branches(self):
        self.good(self.end(("jump", 0)), self.end(("branch", ("slot", 2), 0, 2)), self.end(("branch", ("value", True), 2, 2)))
        self.bad(self.end(("jump", 3)), self.end(("jump", -1)), self.end(("jump", True)), self.end(("jump", None)), self.end(("jump",)),
                 self.end(["jump", 2]), self.end(("jump", 1, 1)), self.end(("branch", ("slot", 3), 0, 2)),
                 self.end(("branch", ("slot", 0), 0, 3)), self.end(("branch", True, 0, 2)), self.end(("branch", VALUE, 0)))

    def test_ends_of_functions(self):
        self.good(self.end(("return", VALUE)), self.end(("raise", "dear")), self.end(("become", "run", ())),
                  self.end(("become", "other", (VALUE,) * 5)), self.end(("done",)))
        self.bad(self.end(("return",)), self.end(("return", 1)), self.end(("return", ("add", VALUE, VALUE))), self.end(("raise", "Dear")),
                 self.end(("raise",)), self.end(("raise", "self")), self.end(("become", "run", (VALUE,) * 6)),
                 self.end(("become", "run", [VALUE])), self.end(("become", "Run", ())), self.end(("become", "run")),
                 self.end(("done", 1)), self.end(("halt",)), self.end(()), self.end(None), self.end("done"))

    def test_waiting_ends(self):
        good = (
            ("call", 0, "f", (), 2, ()), ("call", None, "f", (VALUE,) * 5, 2, (("dear", 2), ("late", 0))), ("ask", 0, "d", (VALUE,), 2),
            ("ask", None, "d", (), 2), ("send", VALUE, "k", ("slot", 0), 2), ("receive", 0, "k", 2), ("receive", None, "k", 2),
            ("sleep", ("slot", 1), 2), ("start", 0, "f", (), 2), ("start", None, "f", (VALUE,), 2), ("mark", 2, 2),
        )
        for end in good:
            self.good(self.end(end, HERE), self.end(end, (("k", ("slot", 0)), ("a", 0))))
            self.bad(self.end(end), self.end(end, ()), self.end(end, (("a", 1),)), self.end(end, (("a", ("slot", 0)),)))
            self.bad(code((HERE, ((0, VALUE),), end), HALT), self.end(end[:-1], HERE), self.end((*end, 2), HERE))
            self.bad(("run", 0, 3, (((), (), end), HALT, HALT)))
        for end in (
            ("call", 3, "f", (), 2, ()), ("call", True, "f", (), 2, ()), ("call", 0, "F", (), 2, ()), ("call", 0, "f", (VALUE,) * 6, 2, ()),
            ("call", 0, "f", [], 2, ()), ("call", 0, "f", (), 3, ()), ("call", 0, "f", (), 2, [("dear", 2)]),
            ("call", 0, "f", (), 2, (("dear", 3),)), ("call", 0, "f", (), 2, (("dear", 2), ("dear", 2))),
            ("call", 0, "f", (), 2, (("Dear", 2),)), ("call", 0, "f", (), 2, (["dear", 2],)), ("call", 0, "f", (), 2, (("dear", 2, 2),)),
            ("call", 0, "f", (), 2, (("dear",),)), ("call", 0, "f", (), 2, ("dear",)),
            ("call", 0, "f", (), 2, None), ("ask", ("slot", 0), "d", (), 2), ("ask", 0, 1, (), 2), ("ask", 0, "d", VALUE, 2),
            ("ask", 0, "d", (1,), 2), ("ask", 0, "d", (), None), ("send", "ann", "k", VALUE, 2), ("send", VALUE, "K", VALUE, 2),
            ("send", VALUE, "k", 1, 2), ("send", VALUE, "k", VALUE, 9), ("receive", -1, "k", 2), ("receive", 0, None, 2),
            ("sleep", 5, 2), ("sleep", VALUE, 3), ("start", 0, "f", (None,), 2), ("start", 5, "f", (), 2), ("mark", 2, 3), ("mark", 2, None),
        ):
            self.bad(self.end(end, HERE))

    def test_both(self):
        self.good(both_code(), both_code(ours=(), theirs=()), both_code(ours=(0, 2)), both_code(errors=(("dear", 5), ("late", 4))),
                  both_code(place=(("k", ("slot", 0)), ("b", 0)), behind=(("k", ("slot", 0)), ("b", 2))),
                  both_code(place=(("b", 0),), behind=(("b", 2),)))
        self.bad(both_code(place=None), both_code(place=(("b", 1),), behind=(("b", 2),)), both_code(steps=((0, VALUE),)),
                 both_code(place=(("b", ("slot", 0)),), behind=(("b", 2),)))
        self.bad(both_code(behind=None), both_code(behind=(("b", 2),)), both_code(behind=(("k", 0), ("b", 1))),
                 both_code(behind=(("k", 1), ("b", 2))), both_code(behind=(("k", 0), ("c", 2))), both_code(behind=(("k", 0), ("b", 0))),
                 both_code(behind=(("k", 0), ("b", 2), ("b", 2))), both_code(behind=(("k", ("slot", 0)), ("b", 2))))
        self.bad(both_code(ours=(0, 0)), both_code(ours=(1,)), both_code(theirs=(0, 1)), both_code(ours=(3,)), both_code(ours=[0]),
                 both_code(ours=(True,)), both_code(ours=(None,)), both_code(theirs=0))
        self.bad(both_code(errors=(("dear", 2),)), both_code(errors=(("dear", 5),), handler=None), both_code(errors=(("dear", 6),)),
                 both_code(errors=(("dear", 5), ("dear", 4))), both_code(errors=(("Dear", 5),)))
        self.good(both_code(handler=None))

    def test_ends_of_bodies(self):
        for done in (None, (("b", 3),), (("b", 4),), (("k", 0), ("b", 3)), (("other", 4),)):
            self.good(both_code(done=done))
        for done in ((), (("b", 0),), (("b", 2),), (("b", 5),), (("b", ("slot", 0)),), (("b", 3), ("k", 0))):
            self.bad(both_code(done=done))

    def test_errors_of_calls_need_no_place(self):
        self.good(code((HERE, (), ("call", 0, "f", (), 2, (("dear", 2),))), HALT))


class CodesTest(FormTest):
    def test_double(self):
        self.good(DOUBLE)
        self.assertEqual((points(DOUBLE), waiting(DOUBLE)), ([0, 1], [1]))
        self.assertEqual((points(code=DOUBLE), waiting(code=DOUBLE)), ([0, 1], [1]))
        self.assertEqual((points(both_code()), waiting(both_code())), ([0, 1, 4, 5], [1]))
        points(DOUBLE).append(9)
        self.assertEqual(points(DOUBLE), [0, 1])

    def test_heads(self):
        entry = ((), (), ("return", VALUE))
        for name, parameters, slots in (("run", 0, 0), ("run", 5, 5), ("run", 5, 100), ("abcdefgh", 0, 100)):
            self.good((name, parameters, slots, (entry,)))
        for name, parameters, slots in (("Run", 0, 0), ("self", 0, 0), (None, 0, 0), ("run", 6, 6), ("run", 1, 0), ("run", 5, 4),
                                        ("run", 0, 101), ("run", -1, 0), ("run", 0, -1), ("run", True, 1), ("run", 0, True),
                                        ("run", "0", 0), ("run", 0, None)):
            self.bad((name, parameters, slots, (entry,)))
        self.bad(["run", 0, 0, (entry,)], ("run", 0, 0), ("run", 0, 0, (entry,), 1), ("run", 0, 0, [entry]), ("run", 0, 0, ()),
                 ("run", 0, 0, ([(), (), ("return", VALUE)],)), ("run", 0, 0, (entry[:2],)), ("run", 0, 0, ((*entry, 1),)))

    def test_block_0(self):
        end = ("return", VALUE)
        self.bad(("run", 0, 0, ((None, (), end),)), ("run", 0, 0, (((("a", 0),), (), end),)), ("run", 0, 0, (([], (), end),)))

    def test_how_many_blocks(self):
        self.good(code(*[HALT] * 999))
        self.bad(code(*[HALT] * 1000))

    def test_slots_exist_everywhere(self):
        for slots in (99, 100):
            wide = code((((("k", ("slot", 99))), ("a", 0)), (), ("ask", 99, "d", (("slot", 99),), 2)), HALT, slots=slots,
                        entry=((), ((99, ("not", ("slot", 99))),), ("jump", 1)))
            self.assertIs(is_code(wide), slots == 100)

    def test_any_value(self):
        for value in ODD:
            self.bad(value, ("run", 0, 3, value), ("run", 0, 3, (value,)), ("run", 0, 3, ((value, value, value),)), code(value),
                     self.end(value), self.step(value), (value, 0, 0, DOUBLE[3]),
                     self.end(("ask", 0, "d", (("value", ("Red", [value])),), 2), HERE))
            self.assertIsInstance(is_codes(value), bool)
            self.assertIs(is_codes({"run": value}), False)

    def test_codes(self):
        self.assertIs(is_codes({}), True)
        self.assertIs(is_codes({"buy": DOUBLE, "other": DOUBLE}), True)
        for bad in ([("buy", DOUBLE)], {"Buy": DOUBLE}, {1: DOUBLE}, {None: DOUBLE}, {"buy": DOUBLE, "x": None}, {("buy",): DOUBLE}, DOUBLE):
            self.assertIs(is_codes(bad), False)
        self.assertIs(is_codes(value={}), True)
        self.assertIs(is_code(value=DOUBLE), True)
