"""heldover.syntax: the order of the text, and labels."""

import unittest

from heldover.syntax import labelled, statements

LEAF = ("sleep", "z", 1)


def function(*body):
    return ("run", (), (), "int", tuple(body))


class StatementsTest(unittest.TestCase):
    def test_it_is_a_generator(self):
        found = statements((LEAF, ("break",)))
        self.assertIs(iter(found), found)
        self.assertEqual(next(found), ((0,), LEAF))
        self.assertEqual(list(found), [((1,), ("break",))])

    def test_begun_and_not_ended(self):
        body = (("if", True, (LEAF,), ()), LEAF)
        begun = statements(body)
        next(begun)
        again = list(statements(body))
        self.assertEqual([path for path, _ in again], [(0,), (0, 0, 0), (1,)])
        self.assertEqual(next(begun), again[1])
        self.assertEqual(list(statements(body)), again)

    def test_no_statements(self):
        self.assertEqual(list(statements(())), [])
        self.assertEqual(list(statements([LEAF])), [((0,), LEAF)])

    def test_bodies(self):
        one, two, three, four = [("sleep", label, 1) for label in "abcd"]
        cases = (
            (("if", True, (one, two), (three,)), [(0, 0, 0), (0, 0, 1), (0, 1, 0)], [one, two, three]),
            (("both", "x", (one,), (two, three)), [(0, 0, 0), (0, 1, 0), (0, 1, 1)], [one, two, three]),
            (("since", "x", (), (two,)), [(0, 1, 0)], [two]),
            (("loop", "x", 3, (one, two)), [(0, 0, 0), (0, 0, 1)], [one, two]),
            (("match", "v", (("A", (), (one,)), ("B", ("p",), ()), ("C", (), (two, three)))),
             [(0, 0, 0), (0, 2, 0), (0, 2, 1)], [one, two, three]),
            (("try", "x", (one,), (("e", (two,)), ("f", (three, four)))),
             [(0, 0, 0), (0, 1, 0), (0, 2, 0), (0, 2, 1)], [one, two, three, four]),
        )
        for statement, paths, inner in cases:
            found = list(statements((statement, LEAF)))
            self.assertEqual([path for path, _ in found], [(0,), *paths, (1,)])
            self.assertEqual([one for _, one in found], [statement, *inner, LEAF])

    def test_statements_without_bodies(self):
        body = (
            ("set", "x", 1), ("return", 1), ("raise", "e"), ("call", "a", "x", "f", (1,)), ("ask", "b", "x", "d", ()),
            ("send", "c", ("self",), "k", 1), ("receive", "d", "x", "k"), ("sleep", "e", 1), ("start", "f", "x", "f", ()),
            ("become", "f", (1, 2)), ("break",),
        )
        self.assertEqual(list(statements(body)), [((at,), one) for at, one in enumerate(body)])

    def test_five_within_each_other(self):
        inner = (LEAF, ("break",))
        words = []
        for word in ("if", "loop", "try", "both"):
            words.append(word)
            if word == "if":
                inner = (LEAF, ("if", True, (), inner))
            elif word == "loop":
                inner = (("loop", "l", 2, inner), LEAF)
            elif word == "try":
                inner = (LEAF, LEAF, ("try", "t", (LEAF,), (("e", inner),)))
            else:
                inner = (("both", "b", inner, (LEAF,)),)
        paths = [path for path, _ in statements(inner)]
        deep = (0, 0, 2, 1, 0, 0, 1, 1, 1)
        self.assertIn(deep, paths)
        self.assertEqual(dict(statements(inner))[deep], ("break",))
        self.assertEqual(paths, sorted(paths))
        self.assertEqual(len(paths), 12)

    def test_by_name(self):
        self.assertEqual(list(statements(body=())), [])


class LabelledTest(unittest.TestCase):
    def labels(self, body):
        return [one[1] for _, one in statements(labelled(function(*body))[4]) if len(one) > 1 and one[0] != "if"]

    def test_every_statement_with_a_label(self):
        body = (
            ("loop", "", 2, (("break",),)), ("try", "", (), (("e", ()),)), ("call", "", "x", "f", ()),
            ("ask", "", "x", "d", ()), ("send", "", ("self",), "k", 1), ("receive", "", "x", "k"), ("sleep", "", 1),
            ("start", "", "x", "f", ()), ("both", "", (), ()), ("since", "", (), ()),
        )
        found = labelled(function(*body))[4]
        self.assertEqual([one[1] for one in found], [str(number) for number in range(1, 11)])
        for before, after in zip(body, found):
            self.assertEqual((before[0], before[2:]), (after[0], after[2:]))

    def test_statements_without_a_label(self):
        body = (("set", "x", 1), ("if", "x", (("raise", "e"),), (("return", 1),)), ("become", "f", ()))
        self.assertEqual(labelled(function(*body)), function(*body))

    def test_least_numbers_that_are_no_labels(self):
        sleep = [("sleep", label, 1) for label in ("", "2", "", "a", "", "5", "3", "")]
        self.assertEqual(self.labels(sleep), ["1", "2", "4", "a", "6", "5", "3", "7"])

    def test_order_of_the_text(self):
        leaf = ("sleep", "", 1)
        body = (
            leaf, ("both", "", (leaf, ("if", True, (leaf,), (leaf,))), (leaf,)), leaf,
            ("match", "v", (("A", ("x",), (leaf,)), ("B", (), (leaf,)))), ("try", "", (leaf,), (("e", (leaf,)),)),
            ("sleep", "4", 1),
        )
        found = labelled(function(*body))[4]
        at = [one for _, one in statements(found) if one[0] not in ("if", "match")]
        self.assertEqual([one[1] for one in at], ["1", "2", "3", "5", "6", "7", "8", "9", "10", "11", "12", "13", "4"])
        self.assertEqual(found[3][2][0][:2], ("A", ("x",)))
        self.assertEqual(found[4][3][0][0], "e")

    def test_labels_further_on_and_deeper_count(self):
        body = (("sleep", "", 1), ("loop", "", 2, (("sleep", "1", 1), ("sleep", "2", 1))))
        self.assertEqual(self.labels(body), ["3", "4", "1", "2"])

    def test_a_second_time_it_changes_nothing(self):
        before = function(("sleep", "", 1), ("sleep", "x", 1), ("loop", "", 3, (("sleep", "", 1),)))
        copy = tuple(before)
        once = labelled(before)
        self.assertEqual(labelled(once), once)
        self.assertEqual(before, copy)
        self.assertEqual(before[4][0], ("sleep", "", 1))
        self.assertEqual(once[:4], before[:4])

    def test_by_name(self):
        self.assertEqual(labelled(function=function()), function())
