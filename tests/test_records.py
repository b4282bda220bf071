"""heldover.records: texts of records, lines, checksums and good prefixes."""

import unittest

from heldover.errors import InvalidRecord
from heldover.records import checksum, good_prefix, good_records, line_text, read_record, record_text
from heldover.stories import strictly_equal
from tests.anything import ODD, nested, tagged

INDEX = (0, ("c", 0), ("round", 2), ("a", 0))
LATER = (0, ("c", 0), ("round", 3), ("a", 0))
ASK = ("ask", "price", (3, True, "ann", ("Mix", -1, ("Red",))))
TOLD = ((INDEX, ASK, ("Mix", 7, ("Two", ("Red",), False)), 12), (LATER, ("mark",), True, 0))
RECORDS = (
    ("waited", 0),
    ("waited", 10 ** 249),
    ("version", 4),
    ("started", "ann", 0, "buy", (3, True, "", ("Mix", 1, "x")), 7),
    ("answered", "ann/0/a.0", INDEX, ASK, False, 7),
    ("answered", "ann", INDEX, ("send", "", "paid", 3), True, 7),
    ("answered", "ann", INDEX, ("receive", "paid"), (("bob", LATER), ("Red",)), 7),
    ("answered", "ann", INDEX, ("sleep", 5), True, 7),
    ("answered", "ann", INDEX, ("start", "buy", ()), "ann/0/a.0", 7),
    ("answered", "ann", INDEX, ("mark",), True, 7),
    ("became", "ann", "buy", (), 7),
    ("moved", (), 0),
    ("moved", ("ann", "bob"), 3),
    ("at", 7, 2, 1),
    ("gone", "ann", ("result", ("Mix", 1, "x"))),
    ("gone", "ann", ("error", "dear")),
    ("task", "ann", 1, 10 ** 9, ("buy", (3,), 0), ()),
    ("task", "ann", 1, 0, ("buy", (3,), 0), TOLD),
    ("lies", "ann", "paid", ("bob", INDEX), -5),
    ("frame", "ann", "any key!", ()),
    ("frame", "ann", "k", ("buy", ((1, None, True, ("Red",)), 3, (((None,), 4, None), ("ended", (2,), "dear"))))),
)


class RecordTest(unittest.TestCase):
    def refused(self, call, *arguments):
        with self.assertRaises(InvalidRecord) as caught:
            call(*arguments)
        self.assertIsNone(caught.exception.position)


class TextTest(RecordTest):
    def test_the_example(self):
        text = record_text(("waited", 5))
        self.assertEqual([text, checksum(1, text), read_record(text)], ['("waited", 5)', 7793, ("waited", 5)])

    def test_every_word_is_read_back(self):
        self.assertEqual({record[0] for record in RECORDS}, {
            "waited", "version", "started", "answered", "became", "moved", "at", "gone", "task", "lies", "frame"})
        for record in RECORDS:
            again = read_record(record_text(record=record))
            self.assertEqual(repr(again), repr(record))
            self.assertTrue(strictly_equal(again, record))

    def test_texts(self):
        self.assertEqual(record_text(RECORDS[3]), '("started", "ann", 0, "buy", (3, true, "", ("Mix", 1, "x")), 7)')
        self.assertEqual(record_text(("moved", ("ann",), 0)), '("moved", ("ann"), 0)')
        self.assertEqual(record_text(("moved", (), 0)), '("moved", (), 0)')
        self.assertEqual(record_text(RECORDS[-1]), '("frame", "ann", "k", ("buy", ((1, none, true, ("Red")), 3, '
                                                   '(((none), 4, none), ("ended", (2), "dear")))))')
        self.assertEqual(record_text(("lies", "ann", "paid", ("bob", INDEX), -5)),
                         '("lies", "ann", "paid", ("bob", (0, ("c", 0), ("round", 2), ("a", 0))), -5)')

    def test_one_item_changed(self):
        """Each item replaced by what is of no form that it may have."""
        for record in RECORDS:
            self.refused(record_text, list(record))
            self.refused(record_text, (*record, 0))
            self.refused(record_text, record[:-1])
            self.refused(record_text, ("nope", *record[1:]))
            for item in range(len(record)):
                for odd in (None, True, -1, 10 ** 250, [], {}, (1,), b"a", object(), nested(1200), "a\n", "%", "\\", '"', ("a",), ["ann"]):
                    spoilt = (*record[:item], odd, *record[item + 1:])
                    tuples = odd in ((1,), ("a",))
                    free = tuples and (record[0], item) in (("frame", 3), ("started", 4), ("became", 3))
                    free = free or record[0] == "moved" and item == 1 and odd == ("a",)
                    free = free or record[0] == "lies" and item == 4 and (odd == -1 or odd is True)
                    free = free or record[0] == "answered" and record[3][0] == "ask" and item == 4 and (odd == -1 or odd is True)
                    free = free or record[0] == "answered" and record[3][0] not in ("ask", "start", "receive") and item == 4 and odd is True
                    if free:
                        self.assertTrue(strictly_equal(read_record(record_text(spoilt)), spoilt))
                    else:
                        self.refused(record_text, spoilt)

    def test_any_value(self):
        for odd in ODD:
            self.refused(record_text, odd)
            self.refused(line_text, 1, odd)
            self.refused(record_text, ("waited", odd) if not isinstance(odd, int) or isinstance(odd, bool) or odd < 0 else odd)
            self.refused(record_text, ("lies", odd, 1, 2, 3))
            self.refused(record_text, ("frame", "ann", odd, 3))

    def test_forms_of_items(self):
        for wrong in (
            ("started", "ann", 0, "Buy", (), 7), ("started", "ann", 0, "send", (), 7), ("started", "ann", 0, "buy", [], 7),
            ("started", "ann", 0, "buy", (1, 2, 3, 4, 5, 6), 7), ("started", "ann", 0, "buy", (None,), 7), ("started", "ann", 0, "buy", (("red",),), 7),
            ("answered", "ann", (0,), ASK, 1, 7), ("answered", "ann", (0, ("a", 10)), ASK, 1, 7), ("answered", "ann", INDEX, ASK, None, 7),
            ("answered", "ann", INDEX, ("ask", "price"), 1, 7), ("answered", "ann", INDEX, ("send", "", "paid", 3), 1, 7),
            ("answered", "ann", INDEX, ("receive", "paid"), 4, 7), ("answered", "ann", INDEX, ("receive", "paid"), (("bob",), 4), 7),
            ("answered", "ann", INDEX, ("start", "buy", ()), True, 7), ("answered", "ann", INDEX, ("sleep", -1), True, 7),
            ("answered", "ann", INDEX, ("sleep", 1), False, 7), ("answered", "ann", INDEX, ASK, 1, None),
            ("became", "ann", "buy", (), -1), ("moved", ["ann"], 0), ("moved", (1,), 0), ("moved", "ann", 0),
            ("gone", "ann", ("result",)), ("gone", "ann", ("result", None)), ("gone", "ann", ("error", "Dear")), ("gone", "ann", ("become", "buy", ())),
            ("gone", "ann", ["result", 1]), ("gone", "ann", ("error", 1)), ("gone", "ann", ("raise", "dear")), ("gone", "ann", (1, "dear")), ("gone", 1, ("result", 1)),
            ("task", "ann", 0, 10 ** 9 + 1, ("buy", (), 0), ()), ("task", "ann", 0, True, ("buy", (), 0), ()), ("task", "ann", 0, -1, ("buy", (), 0), ()),
            ("task", "ann", 0, 0, ("buy", ()), ()), ("task", "ann", 0, 0, ("Buy", (), 0), ()), ("task", "ann", 0, 0, ("buy", [], 0), ()),
            ("task", "ann", 0, 0, ("buy", (1, 2, 3, 4, 5, 6), 0), ()), ("task", "ann", 0, 0, ("buy", (None,), 0), ()), ("task", "ann", 0, 0, ("buy", (), -1), ()), ("task", "ann", 0, 0, ["buy", (), 0], ()), ("task", "ann", 0, 0, ("buy", (), 0), []),
            ("lies", "ann", "paid", ("bob", (0,)), 1), ("lies", "ann", "paid", "bob", 1), ("lies", "ann", "paid", ("bob", INDEX), None),
            ("lies", 1, "paid", ("bob", INDEX), 1), ("lies", "ann", 1, ("bob", INDEX), 1), ("frame", "ann", "k", None), ("frame", "ann", "k", [1]),
            ("frame", "ann", "k", ([1],)), ("frame", "ann", 1, ()), ("at", 0, 1, -1), ("at", True, 1, 0), ("at", 0, True, 0), ("version", True),
        ):
            self.refused(record_text, wrong)

    def test_epochs_of_entries_are_not_looked_at(self):
        record = ("task", "ann", 0, 5, ("buy", (), 0), TOLD)
        self.assertEqual(read_record(record_text(record)), record)

    def test_entries_are_sorted_and_different(self):
        one, other = TOLD
        for told in ((other, one), (one, one), (one, other, other), (one, (INDEX, ("mark",), True, 1))):
            self.refused(record_text, ("task", "ann", 0, 0, ("buy", (), 0), told))
        for index in ((0,), (0, ("a", 10)), (0, ["a", 0]), (True, ("a", 0)), "0 a.0", None):
            self.refused(record_text, ("task", "ann", 0, 0, ("buy", (), 0), ((index, *one[1:]),)))
        for told in ((one[:3],), ((*one, 1),), (list(one),), ((INDEX, ASK, None, None),), ((INDEX, ASK, 1, None),), ((INDEX, ("mark",), 1, 0),)):
            self.refused(record_text, ("task", "ann", 0, 0, ("buy", (), 0), told))

    def test_limits(self):
        for sign in (1, -1):
            good, wrong = sign * (10 ** 250 - 1), sign * 10 ** 250
            for record in (("frame", "ann", "k", (good,)), ("lies", "ann", "paid", ("bob", INDEX), good)):
                self.assertEqual(read_record(record_text(record)), record)
            self.refused(record_text, ("frame", "ann", "k", (wrong,)))
            self.refused(record_text, ("lies", "ann", "paid", ("bob", INDEX), wrong))
            self.refused(read_record, f'("frame", "ann", "k", ({wrong}))')
        for length, good in ((400, True), (401, False)):
            record = ("frame", "a" * length, "k", ("b" * length,))
            if good:
                self.assertEqual(read_record(record_text(record)), record)
            else:
                self.refused(record_text, record)
                self.refused(read_record, f'("frame", "ann", "{"a" * length}", ())')
        self.assertEqual(record_text(("gone", "x y~!", ("result", ""))), '("gone", "x y~!", ("result", ""))')
        for depth, good in ((39, True), (40, False), (1000, False), (1200, False)):
            record = ("frame", "ann", "k", nested(depth - 1, ()))
            text = f'("frame", "ann", "k", {"(" * depth}{")" * depth})'
            if good:
                self.assertEqual(record_text(record), text)
                self.assertEqual(read_record(text), record)
            else:
                self.refused(record_text, record)
                self.refused(read_record, text)

    def test_data_keep_to_their_depth(self):
        for depth, good in ((12, True), (13, False)):
            record = ("gone", "ann", ("result", tagged(depth)))
            if good:
                self.assertEqual(read_record(record_text(record)), record)
            else:
                self.refused(record_text, record)


class ReadTest(RecordTest):
    def test_any_value(self):
        for odd in ODD:
            self.refused(read_record, odd)

    def test_texts_that_are_nearly_right(self):
        for text in (
            "", " ", "()", '("waited")', '("waited", 5', '("waited", 5))', '("waited", 5) ', ' ("waited", 5)', '( "waited", 5)', '("waited" , 5)',
            '("waited",5)', '("waited",  5)', '("waited", 5,)', '("waited", 5, )', '("waited", 05)', '("waited", -0)', '("waited", +5)', '("waited", 5.0)',
            '("waited", 5e1)', '("waited", 5_0)', '("waited", --5)', '("waited", - 5)', '("waited", -)', '("waited", )', '("waited", True)',
            '("waited", true)', '("waited", none)', '("waited", None)', "('waited', 5)", '("Waited", 5)', '("waited", "5")', '["waited", 5]', '"waited"', "5",
            '("waited", 5)\n', '("waited", 5)("waited", 5)', '("waited", (5))', '("waited", (5,))', '("moved", ("ann",), 0)', '("moved", ("ann",), 0)',
            '("moved", (, ), 0)', '("moved", ( ), 0)', '("moved", (), 0', '("moved", ("ann" "bob"), 0)', '("moved", ("ann, 0)', '("moved", ("a\\"n"), 0)',
            '("moved", (ann), 0)', '("gone", "ann", ("result", true1))', '("gone", "ann", ("result", truetrue))', '("gone", "ann", ("result", tru))',
            '("gone", "ann", ("result", 1 ))', '("gone", "ann", ("result", 00))', '("gone", "ann", ("result", -01))', '("gone", "ann", ("result", 1-))',
            '("gone", "ann", ("result", "a%"))', '("frame", "ann", "k", (none, ))', '("frame", "ann", "k", (None))', '("frame", "ann", "k", none)',
            '("waited", ' + "5" * 251 + ")", '("waited", ' + "5" * 5000 + ")", "(" * 1200, "(" * 1200 + ")" * 1200, '("waited", ' + "(" * 1200 + "5" + ")" * 1200 + ")",
        ):
            self.refused(read_record, text)

    def test_one_sign_exchanged_put_in_or_taken_out(self):
        """What is read of any text is what has that text; nothing else is read."""
        for record in RECORDS[:6]:
            text = record_text(record)
            for at in range(len(text) + 1):
                changed = [text[:at] + text[at + 1:]]
                for sign in '0-1 ,()"atn':
                    changed += [text[:at] + sign + text[at:], text[:at] + sign + text[at + 1:]]
                for one in changed:
                    try:
                        found = read_record(one)
                    except InvalidRecord:
                        continue
                    self.assertEqual(record_text(found), one)


class FileTest(RecordTest):
    def setUp(self):
        self.lines = [line_text(number, record) for number, record in enumerate(RECORDS, start=1)]
        self.file = "".join(self.lines)

    def test_checksums_by_hand(self):
        # "1 (": 49, 32 and 40 at the places 1, 2 and 3.
        self.assertEqual(checksum(1, "("), 49 + 2 * 32 + 3 * 40)
        self.assertEqual(checksum(12, ""), 49 + 2 * 50 + 3 * 32)
        self.assertEqual(checksum(number=1, text=""), 49 + 2 * 32)
        text = "~" * 400
        self.assertEqual(checksum(1, text), (49 + 64 + 126 * sum(range(3, 403))) % 65521)
        self.assertGreater(49 + 64 + 126 * sum(range(3, 403)), 65521)

    def test_lines(self):
        self.assertEqual(line_text(1, ("waited", 5)), '1 7793 ("waited", 5)\n')
        text = record_text(("waited", 5))
        self.assertEqual(line_text(number=12, record=("waited", 5)), f"12 {checksum(12, text)} {text}\n")

    def test_whole_files(self):
        self.assertEqual(repr(good_records(self.file)), repr(list(RECORDS)))
        self.assertEqual(good_prefix(text=self.file), self.file)
        self.assertEqual((good_records(""), good_prefix("")), ([], ""))
        self.assertIsNot(good_records(self.file), good_records(self.file))

    def holds(self, text, count):
        self.assertEqual(good_prefix(text), "".join(self.lines[:count]))
        self.assertEqual(repr(good_records(text)), repr(list(RECORDS[:count])))

    def test_one_sign_changed(self):
        """A change in a line leaves the lines before it; what stands behind is ignored."""
        lines = self.lines[:4]
        file = "".join(lines)
        for at in range(len(file)):
            count = file[:at].count("\n")
            for changed in (file[:at] + file[at + 1:], file[:at] + "x" + file[at + 1:], file[:at] + "7" + file[at:], file[:at] + "\n" + file[at:],
                            file[:at] + " " + file[at + 1:]):
                if changed == file:
                    continue
                self.holds(changed, count if not changed.startswith("".join(self.lines[:count + 1])) else count + 1)

    def test_the_end_cut_at_any_place(self):
        for at in range(len(self.file) + 1):
            self.assertEqual(good_prefix(self.file[:at]), "".join(self.lines[:self.file[:at].count("\n")]))

    def test_lines_left_out_doubled_and_exchanged(self):
        for at in range(len(self.lines)):
            self.holds("".join(self.lines[:at] + self.lines[at + 1:]), at)
            self.holds("".join(self.lines[:at + 1] + self.lines[at:]), at + 1)
            if at:
                self.holds("".join(self.lines[:at - 1] + [self.lines[at], self.lines[at - 1]] + self.lines[at + 1:]), at - 1)

    def test_parts_of_a_line(self):
        text = record_text(RECORDS[1])
        total = checksum(2, text)
        for line in (f"{total} {text}\n", f"2 {text}\n", f"2 {total}\n", f"2 {total} \n", f"02 {total} {text}\n", f"2 0{total} {text}\n", f"2 {total}  {text}\n",
                     f" 2 {total} {text}\n", f"2 {total} {text} \n", f"2 {total + 65521} {text}\n", f"2 {total} {text}", f"+2 {total} {text}\n", "\n",
                     f"2 {total - 1} {text}\n", f"3 {checksum(3, text)} {text}\n", f"2 {checksum(2, 'nope')} nope\n", f"2 {checksum(2, '')} \n", f"2 {checksum(2, text + ' ')} {text} \n"):
            self.holds(self.lines[0] + line + "".join(self.lines[2:]), 1)

    def test_a_line_without_a_record(self):
        for text in ('("waited", -1)', '("waited", 05)', '("nope", 5)', "()"):
            self.assertEqual(good_records(f"1 {checksum(1, text)} {text}\n"), [])


if __name__ == "__main__":
    unittest.main()
