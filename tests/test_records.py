"""Records: points 5.1 and 5.2."""

import itertools
import unittest

from lethe import records
from lethe.errors import BadForm, NotAllowed
from lethe.records import Record, is_record_text, record_from_value, record_value
from tests.plain import SIGNS, Case, near_texts, plain_pack, plain_unpack

NUMBERS = [str(k) for k in range(100)]
HOLDERS = [[], ["me"], ["0", "zz9a"], ["a", "ab"], ["me", "you"]]


def fields(record):
    return (record.x, record.y, record.label, record.text, record.holders, record.due)


def shown_fields(text):
    """Return the fields of the record with this value, or None."""
    parts = plain_unpack(text)
    if parts is None or len(parts) not in (5, 6, 7):
        return None
    x, y, label, due, written = parts[:5]
    holders = parts[5:]
    if x not in NUMBERS or y not in NUMBERS or label not in NUMBERS[:4] or due not in NUMBERS[:2]:
        return None
    if len(written) > 16 or '"' in written or sorted(set(holders)) != holders or due == "1" and not holders:
        return None
    if any(not 1 <= len(name) <= 4 or not set(name) <= set("abcdefghijklmnopqrstuvwxyz0123456789") for name in holders):
        return None
    return (int(x), int(y), int(label), written, holders, due == "1")


class TestRecord(Case):
    def test_constants(self):
        self.assertEqual((records.MAX_RECORDS, records.MAX_HOLDERS, records.MAX_TEXT), (8, 2, 16))

    def test_fields(self):
        for x, label, text, holders in itertools.product([0, 1, 99], range(4), ["", "it's", "x" * 16], HOLDERS):
            for due in [False] + [True] * bool(holders):
                row = (x, 99 - x, label, text, holders, due)
                record = Record(*row)
                self.assertEqual(fields(record), row)
                self.assertIs(record.due, due)
                self.assertIs(type(record.holders), list)

    def test_it_copies_the_holders(self):
        holders = ["a", "b"]
        record = Record(0, 0, 0, "", holders, False)
        holders.append("c")
        self.assertEqual(record.holders, ["a", "b"])
        record.holders.clear()
        self.assertEqual(holders, ["a", "b", "c"])

    def test_numbers_out_of_range(self):
        for x, y, label in [(-1, 0, 0), (100, 0, 0), (0, -1, 0), (0, 100, 0), (0, 0, -1), (0, 0, 4), (10 ** 9, 0, 0)]:
            self.fails(NotAllowed, Record, x, y, label, "red", [], False)
            self.fails(NotAllowed, Record, x, y, label, "red", ["a"], True)

    def test_texts(self):
        self.fails(NotAllowed, Record, 1, 2, 3, "x" * 17, [], False)
        self.fails(NotAllowed, Record, 1, 2, 3, 'a"b', [], False)
        self.fails(NotAllowed, Record, 1, 2, 3, '"', ["a"], True)
        self.assertEqual(Record(1, 2, 3, "' '", [], False).text, "' '")

    def test_holders(self):
        for holders in [["b", "a"], ["a", "a"], ["a", "b", "c"], ["A"], [""], ["abcde"], ["a", "b."], ["a b"],
                        ["", "a"], ["a", "b", "b"], ["b", "ab", "a"]]:
            self.fails(NotAllowed, Record, 1, 2, 3, "red", holders, False)
            self.fails(NotAllowed, Record, 1, 2, 3, "red", holders, True)

    def test_due_without_holders(self):
        self.fails(NotAllowed, Record, 1, 2, 3, "red", [], True)


class TestIsRecordText(Case):
    def test_each_sign(self):
        for sign in SIGNS:
            self.assertIs(is_record_text(sign), sign != '"')
            self.assertIs(is_record_text("ab" + sign + "c"), sign != '"')

    def test_lengths(self):
        for length in range(20):
            self.assertIs(is_record_text("x" * length), length <= 16)
            self.assertIs(is_record_text(" " * length), length <= 16)

    def test_strings_that_are_no_texts(self):
        for text in ["a\nb", "\t", chr(37), "5" + chr(37), "\x7f", "\x1f", "\u00e9"]:
            self.assertIs(is_record_text(text), False)


class TestValues(Case):
    def check_text(self, text):
        row = shown_fields(text)
        if row is None:
            self.fails(BadForm, record_from_value, text)
        else:
            record = record_from_value(text)
            self.assertEqual(fields(record), row)
            self.assertIs(record.due, row[5])
            self.assertEqual(record_value(record), text)
        return row is not None

    def test_examples(self):
        self.assertEqual(record_value(Record(3, 4, 2, "red fox", ["me"], True)), "1:31:41:21:17:red fox2:me")
        self.fails(BadForm, record_from_value, "1:31:41:21:10:")

    def test_by_hand(self):
        self.assertEqual(record_value(Record(0, 99, 0, "", [], False)), "1:02:991:01:00:")
        self.assertEqual(record_value(Record(10, 9, 3, "it's", ["a", "you"], False)), "2:101:91:31:04:it's1:a3:you")
        self.assertEqual(fields(record_from_value("1:02:991:01:00:")), (0, 99, 0, "", [], False))

    def test_what_was_written_is_read(self):
        for x, label, text, holders in itertools.product([0, 7, 10, 99], range(4), ["", "1:a", "x" * 16], HOLDERS):
            for due in [False] + [True] * bool(holders):
                value = record_value(Record(x, 99 - x, label, text, holders, due))
                parts = [str(x), str(99 - x), str(label), str(int(due)), text] + holders
                self.assertEqual(value, plain_pack(parts))
                self.assertTrue(self.check_text(value))

    def test_near_values(self):
        good = 0
        for value in ["1:31:41:21:17:red fox2:me", "1:02:991:01:00:", "2:101:91:31:04:it's1:a3:you"]:
            for text in near_texts(value, 'a019:2" '):
                good += self.check_text(text)
        self.assertGreater(good, 20)

    def test_wrong_parts(self):
        good = ["3", "4", "2", "1", "red", "a", "b"]
        self.assertTrue(self.check_text(plain_pack(good)))
        for at in range(len(good)):
            for part in ["", "0", "00", "03", "4", "5", "99", "100", "-1", "+1", " 1", "1 ", "x", "X", "x" * 16,
                         "x" * 17, '"', "a", "b", "c", "abcd", "abcde", "True", "1.0"]:
                self.check_text(plain_pack(good[:at] + [part] + good[at + 1:]))
                self.check_text(plain_pack(good[:at] + [part] + good[at:]))
            self.check_text(plain_pack(good[:at] + good[at + 1:]))
            self.check_text(plain_pack(good[:at] + good[at:at + 1] + good[at:]))
            for other in range(at):
                parts = list(good)
                parts[at], parts[other] = parts[other], parts[at]
                self.check_text(plain_pack(parts))
        for many in range(len(good)):
            self.assertIs(self.check_text(plain_pack(good[:many])), many >= 6)
        self.assertFalse(self.check_text(plain_pack(good + ["c"])))
        self.assertFalse(self.check_text(plain_pack(["3", "4", "2", "1", "red"])))
        self.assertTrue(self.check_text(plain_pack(["3", "4", "2", "0", "red"])))

    def test_no_packed_text(self):
        for text in ["", "1", ":", "0:", "5:abcd", "01:3"]:
            self.assertFalse(self.check_text(text))


if __name__ == "__main__":
    unittest.main()
