"""heldover.stories: data, questions, answers and stories."""

import unittest

from heldover.stories import entries, is_answer, is_datum, is_question, is_story, same
from tests.anything import ODD, nested, tagged

INDEX = (0, ("a", 0))
MESSAGE = (("ann", INDEX), 5)
QUESTIONS = {
    ("ask", "price", (1, ("Red",))): 5,
    ("send", "ann", "paid", True): True,
    ("receive", "paid"): MESSAGE,
    ("sleep", 0): True,
    ("start", "run", ()): "ann/0/a.0",
    ("mark",): True,
}


class DatumTest(unittest.TestCase):
    def test_good(self):
        for value in (0, -1, 10 ** 300, True, False, "", "ann", "x" * 200, ("Red",), ("Mix", 1, "a", ("Red",)), tagged(12)):
            self.assertIs(is_datum(value), True)

    def test_bad(self):
        for value in (None, [], ["Red"], (), ("red",), (1,), ("Red", 1, 2, 3, 4), ("Red", None), ("Red", [1]), "x" * 201, 'a"b', "%",
                      "a\\", "\n", tagged(13), tagged(1200), nested(1200), b"a", {}, set(), ("Red", ())):
            self.assertIs(is_datum(value), False)

    def test_any_value(self):
        for value in ODD:
            self.assertIsInstance(is_datum(value), bool)
            self.assertIs(is_datum(("Red", value)), is_datum(value))


class QuestionTest(unittest.TestCase):
    def test_good(self):
        for question in QUESTIONS:
            self.assertIs(is_question(question), True)
        self.assertIs(is_question(("ask", "price", (1, 2, 3, 4, tagged(12)))), True)
        self.assertIs(is_question(("sleep", 10 ** 30)), True)
        self.assertIs(is_question(("send", "", "paid", tagged(12))), True)

    def test_bad(self):
        for value in (
            ("ask", "price"), ("ask", "Price", ()), ("ask", "self", ()), ("ask", "price", []), ("ask", "price", (None,)),
            ("ask", "price", (1,) * 6), ("ask", "price", (tagged(13),)), ("ask", "price", (), 1), ["ask", "price", ()],
            ("send", "ann", "paid"), ("send", 1, "paid", True), ("send", "%", "paid", True), ("send", "ann", "1", True),
            ("send", "ann", "paid", None), ("send", "ann", "paid", tagged(13)), ("receive",), ("receive", "paid", 1), ("receive", ""),
            ("sleep",), ("sleep", -1), ("sleep", True), ("sleep", "1"), ("sleep", 1, 1), ("start", "run"), ("start", "run", (1,) * 6),
            ("start", 1, ()), ("mark", 1), ("mark", ()), "mark", ("since",), ("call", "run", ()), (), (("mark",),),
        ):
            self.assertIs(is_question(value), False)

    def test_any_value(self):
        for value in ODD:
            self.assertIs(is_question(value), False)
            for word in ("ask", "send", "receive", "sleep", "start", "mark"):
                self.assertIs(is_question((word, value, value, value, value)), False)
            self.assertIs(is_question((value, "price", ())), False)


class AnswerTest(unittest.TestCase):
    def test_good(self):
        for question, answer in QUESTIONS.items():
            self.assertIs(is_answer(question, answer), True)
        self.assertIs(is_answer(("receive", "paid"), (("", INDEX), tagged(12))), True)

    def test_bad(self):
        for question in (("send", "ann", "paid", True), ("sleep", 0), ("mark",)):
            for value in (1, False, None, "True", (), *[value for value in ODD if value is not True]):
                self.assertIs(is_answer(question, value), False)
        for value in (None, (), [], tagged(13), MESSAGE):
            self.assertIs(is_answer(("ask", "price", ()), value), False)
        for value in (None, 5, True, [("ann", INDEX), 5], (["ann", INDEX], 5), (("ann", INDEX),), (("ann", INDEX), None), (5, 5),
                      (("%", INDEX), 5), (("ann", (0,)), 5), (("ann", INDEX), tagged(13)), (("ann", INDEX), 5, 5), (("ann", INDEX, 1), 5), (("ann",), 5),
                      (("ann", (True, ("a", 0))), 5)):
            self.assertIs(is_answer(("receive", "paid"), value), False)
        for value in (None, 1, True, ("Red",), "%"):
            self.assertIs(is_answer(("start", "run", ()), value), False)

    def test_any_values(self):
        for question in (*ODD, ("ask",), ["mark"]):
            for value in (True, 5, "a", MESSAGE, *ODD):
                self.assertIs(is_answer(question, value), False)
        for value in ODD:
            for question in QUESTIONS:
                self.assertIsInstance(is_answer(question, value), bool)

    def test_by_name(self):
        self.assertTrue(is_answer(question=("mark",), value=True))


class SameTest(unittest.TestCase):
    def test_same(self):
        for value in (0, True, "", "a", ("Red",), tagged(12), MESSAGE, *QUESTIONS, *QUESTIONS.values()):
            self.assertIs(same(value, value), True)
        self.assertIs(same(("Mix", 10 ** 20, "a"), ("Mix", 10 ** 20, "a")), True)

    def test_true_is_not_one(self):
        for one, other in ((True, 1), (False, 0), (("Mix", 1), ("Mix", True)), (("Mix", ("Mix", 0)), ("Mix", ("Mix", False))),
                           (("ask", "price", (1,)), ("ask", "price", (True,))), (("send", "", "k", 0), ("send", "", "k", False)),
                           ((("ann", INDEX), 1), (("ann", INDEX), True)), ((("ann", INDEX), 1), (("ann", (False, ("a", 0))), 1)),
                           (("sleep", 1), ("sleep", True))):
            self.assertIs(same(one, other), False)
            self.assertIs(same(other, one), False)

    def test_not_same(self):
        values = [0, 1, -1, True, False, "", "a", ("Red",), ("Red", 1), ("Mix",), tagged(12), tagged(11), MESSAGE,
                  (("bob", INDEX), 5), *QUESTIONS]
        for at, one in enumerate(values):
            for other in values[at + 1:]:
                self.assertIs(same(one, other), False)
                self.assertIs(same(other, one), False)

    def test_all_other_values(self):
        for value in (None, (), [], ["Red"], INDEX, ("ann", INDEX), tagged(13), ("ask", "price", [1]), ("mark", 1), {}):
            self.assertIs(same(value, value), False)
        for one in ODD:
            self.assertIs(same(one, one), is_datum(one))
            for other in (1, "", ("Red", 1), ("mark",), MESSAGE):
                self.assertIsInstance(same(one, other), bool)
                self.assertIsInstance(same(other, one), bool)
        self.assertIs(same(tagged(1200), tagged(1200)), False)
        self.assertIs(same(tagged(12), tagged(1200)), False)


class StoryTest(unittest.TestCase):
    def test_good(self):
        self.assertIs(is_story(0, {}), True)
        self.assertIs(is_story(10 ** 9, {}), True)
        story = {(3, ("a", number)): (question, answer, number)
                 for number, (question, answer) in enumerate(QUESTIONS.items())}
        story[3, ("b", 0)] = (("ask", "price", ()), None, None)
        self.assertIs(is_story(3, story), True)
        for epoch in (0, 2, 4):
            self.assertIs(is_story(epoch, story), False)

    def test_bad_entries(self):
        for entry in (
            None, (), (("mark",), True), (("mark",), True, 1, 1), [("mark",), True, 1], (("mark",), None, None),
            (("sleep", 1), None, None), (("receive", "paid"), None, None), (("ask", "price", ()), None, 3),
            (("ask", "price", ()), 3, None), (("mark",), True, -1), (("mark",), True, True), (("mark",), True, "1"),
            (("mark",), 1, 1), (("mark",), False, 1), (("ask", "price", ()), (), 1), (("ask",), None, None), (None, None, None),
            (("nope",), True, 1), (("start", "run", ()), None, None),
        ):
            self.assertIs(is_story(0, {INDEX: entry}), False)

    def test_bad_indexes(self):
        entry = (("mark",), True, 1)
        self.assertIs(is_story(0, {INDEX: entry}), True)
        self.assertIs(is_story(1, {(1, ("a", 0)): entry}), True)
        for index in ((True, ("a", 0)), (1, ("a", True)), (1,), "a", None, 1, (0, ("a", 0)), (2, ("a", 0)), nested(1000)):
            self.assertIs(is_story(1, {index: entry}), False)
            self.assertIs(is_story(1, {(1, ("z", 0)): entry, index: entry}), False)

    def test_any_values(self):
        for value in ODD:
            if not isinstance(value, dict) or value:
                self.assertIs(is_story(0, value), False)
            self.assertIs(is_story(0, {INDEX: value}), False)
            self.assertIs(is_story(0, {INDEX: (value, value, value)}), False)
            self.assertIs(is_story(0, {INDEX: (("ask", "price", ()), None, value)}), value is None)
            epoch = isinstance(value, int) and not isinstance(value, bool) and 0 <= value <= 10 ** 9
            self.assertIs(is_story(value, {}), epoch)
        self.assertIs(is_story(10 ** 9 + 1, {}), False)

    def test_entries(self):
        story = {}
        for number in (3, 1, 2, 0):
            story[0, ("a", number)] = (("sleep", number), True, number)
        story[0, ("a", 0), ("b", 0)] = (("mark",), True, 0)
        found = entries(story)
        self.assertIs(iter(found), found)
        self.assertEqual(next(found), ((0, ("a", 0)), (("sleep", 0), True, 0)))
        again = list(entries(story=story))
        self.assertEqual([index for index, _ in again], sorted(story))
        self.assertEqual(dict(again), story)
        self.assertEqual(list(found), again[1:])
        self.assertEqual(list(entries({})), [])
