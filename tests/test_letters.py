"""Letters: point 8.1."""

import itertools
import re
import unittest

from lethe.errors import BadForm, NotAllowed
from lethe.letters import ask_letter, done_letter, part_letters, read_letter
from tests.plain import SIGNS, Case, near_texts, plain_pack, plain_unpack

TWINS = ["t1", "t2", "t3"]
NO_TWINS = ["t0", "t4", "t", "1", "T1", "", "t11", "v1", "home", "t1 ", "t"]
NUMBERS = [1, 2, 9, 10, 42, 999999998, 999999999]
NO_NUMBERS = [0, -1, -999999999, 1000000000, 10 ** 30]
FILES = {"map": "12", "log": "", "a-1": SIGNS, "zz": "x" * 4000, "abcdefghijkl": "1:a", "0": " "}
NO_FILES = [{"": "x"}, {"Map": "x"}, {"a b": "x"}, {"abcdefghijklm": "x"}, {"a/": "x"}, {"map": "x" * 4001},
            {"a": "", "A": ""}]


def plain_parts(twin, question, moment, files):
    """Return the packed texts of an answer."""
    rows = [[str(k), str(len(files)), name, files[name]] for k, name in enumerate(sorted(files))]
    return [plain_pack(["part", twin, str(question), str(moment), *row]) for row in rows or [["0", "0", "", ""]]]


def plain_letter(letter):
    """Return the tuple of a letter, or None, by patterns for its parts."""
    parts = plain_unpack(letter)
    number, small = "[1-9][0-9]{0,8}", "(0|[1-9][0-9]?)"
    patterns = {"ask": ["t[123]", number], "done": ["t[123]", number, number],
                "part": ["t[123]", number, number, small, small, "[a-z0-9-]{0,12}", "(?s).{0,4000}"]}
    if not parts or parts[0] not in patterns or len(parts) != 1 + len(patterns[parts[0]]):
        return None
    if not all(re.fullmatch(pattern, part) for pattern, part in zip(patterns[parts[0]], parts[1:])):
        return None
    values = [int(part) if 2 <= k <= 5 else part for k, part in enumerate(parts)]
    if parts[0] == "part" and values[4:] != [0, 0, "", ""]:
        if not values[4] < values[5] <= 30 or values[6] == "":
            return None
    return tuple(values)


class LettersCase(Case):
    def check(self, letter):
        """Check a text against the plain reading of it; tell whether it is a letter."""
        read = plain_letter(letter)
        if read is None:
            self.fails(BadForm, read_letter, letter)
        else:
            self.assertEqual(read_letter(letter), read)
            self.assertEqual([type(part) for part in read_letter(letter)], [type(part) for part in read])
        return read is not None


class TestWriting(LettersCase):
    def test_examples(self):
        self.assertEqual(ask_letter("t1", 3), "3:ask2:t11:3")
        self.assertEqual(part_letters("t1", 3, 5, {"map": "12"}), ["4:part2:t11:31:51:01:13:map2:12"])
        self.assertEqual(done_letter("t1", 3, 5), "4:done2:t11:31:5")

    def test_numbers(self):
        for twin, question in itertools.product(TWINS, NUMBERS):
            letter = ask_letter(twin, question)
            self.assertEqual(letter, plain_pack(["ask", twin, str(question)]))
            self.assertEqual(read_letter(letter), ("ask", twin, question))
            # The question and the moment are not compared with each other.
            for moment in NUMBERS:
                letter = done_letter(twin, question, moment)
                self.assertEqual(letter, plain_pack(["done", twin, str(question), str(moment)]))
                self.assertEqual(read_letter(letter), ("done", twin, question, moment))
                letters = part_letters(twin, question, moment, {})
                self.assertEqual(letters, plain_parts(twin, question, moment, {}))
                self.assertEqual(read_letter(letters[0]), ("part", twin, question, moment, 0, 0, "", ""))

    def test_parts(self):
        for many in range(len(FILES) + 1):
            files = {name: FILES[name] for name in list(FILES)[:many]}
            before = dict(files)
            letters = part_letters("t2", 7, 4, files)
            self.assertEqual(letters, plain_parts("t2", 7, 4, files))
            self.assertEqual(files, before)
            for k, name in enumerate(sorted(files)):
                self.assertEqual(read_letter(letters[k]), ("part", "t2", 7, 4, k, many, name, files[name]))

    def test_30_files_and_31(self):
        for many in [29, 30, 31, 32]:
            files = {f"f{k}": str(k) for k in range(many)}
            if many > 30:
                self.fails(NotAllowed, part_letters, "t1", 3, 5, files)
                continue
            letters = part_letters("t1", 3, 5, files)
            self.assertEqual(letters, plain_parts("t1", 3, 5, files))
            self.assertEqual([read_letter(letter)[4:6] for letter in letters], [(k, many) for k in range(many)])

    def test_not_allowed(self):
        for twin in NO_TWINS:
            self.fails(NotAllowed, ask_letter, twin, 3)
            self.fails(NotAllowed, done_letter, twin, 3, 5)
            self.fails(NotAllowed, part_letters, twin, 3, 5, {"map": "12"})
            self.fails(NotAllowed, part_letters, twin, 3, 5, {})
        for number in NO_NUMBERS:
            self.fails(NotAllowed, ask_letter, "t1", number)
            for question, moment in [(number, 5), (5, number), (number, number)]:
                self.fails(NotAllowed, done_letter, "t1", question, moment)
                self.fails(NotAllowed, part_letters, "t1", question, moment, {"map": "12"})
                self.fails(NotAllowed, part_letters, "t1", question, moment, {})
        for files in NO_FILES:
            self.fails(NotAllowed, part_letters, "t1", 3, 5, files)
            self.fails(NotAllowed, part_letters, "t1", 3, 5, {"map": "12", **files})

    def test_returned_lists_are_new(self):
        part_letters("t1", 3, 5, FILES).clear()
        self.assertEqual(part_letters("t1", 3, 5, FILES), plain_parts("t1", 3, 5, FILES))


class TestReading(LettersCase):
    def test_near_texts(self):
        good = 0
        for letter in [ask_letter("t1", 3), ask_letter("t3", 10), done_letter("t2", 30, 5)] + \
                part_letters("t1", 3, 12, {"map": "12", "log": ""}) + part_letters("t1", 3, 5, {}):
            self.assertTrue(self.check(letter))
            for text in near_texts(letter, "a0:13t-A "):
                good += self.check(text)
        self.assertGreater(good, 50)

    def test_each_part_exchanged_doubled_and_left_out(self):
        others = ["", "0", "1", "2", "3", "00", "01", "30", "31", "-1", "+1", " 1", "1 ", "999999999", "1000000000",
                  "0999999999", "ask", "part", "done", "PART", "t1", "t3", "t4", "t0", "map", "Map", "a b", "x"]
        parts_of_two = part_letters("t1", 3, 5, {"map": "1", "z": "2"})
        for letter in [ask_letter("t1", 3), done_letter("t1", 3, 5), *parts_of_two, *part_letters("t1", 3, 5, {})]:
            parts = plain_unpack(letter)
            for k in range(len(parts)):
                self.assertFalse(self.check(plain_pack(parts[:k] + parts[k + 1:])))
                self.assertFalse(self.check(plain_pack(parts[:k] + parts[k:k + 1] + parts[k:])))
                for other in others:
                    self.check(plain_pack(parts[:k] + [other] + parts[k + 1:]))
                    self.assertFalse(self.check(plain_pack(parts[:k] + [other] + parts[k:])))

    def test_numbers(self):
        for number in ["0", "1000000000", "01", "00", "", "-1", "1.0"]:
            self.assertFalse(self.check(plain_pack(["ask", "t1", number])))
            self.assertFalse(self.check(plain_pack(["done", "t1", number, "5"])))
            self.assertFalse(self.check(plain_pack(["done", "t1", "5", number])))
            self.assertFalse(self.check(plain_pack(["part", "t1", number, "5", "0", "0", "", ""])))
            self.assertFalse(self.check(plain_pack(["part", "t1", "5", number, "0", "0", "", ""])))
        for number in ["1", "999999999"]:
            self.assertTrue(self.check(plain_pack(["ask", "t1", number])))
            self.assertTrue(self.check(plain_pack(["part", "t1", number, number, "0", "0", "", ""])))

    def test_index_and_count(self):
        for index, count, name, data, good in [
                (0, 1, "a", "", True), (1, 1, "a", "", False), (2, 1, "a", "", False), (29, 30, "a", "x", True),
                (30, 30, "a", "x", False), (0, 30, "a", "x", True), (0, 31, "a", "x", False), (30, 31, "a", "x", False),
                (0, 0, "", "", True), (0, 0, "a", "", False), (0, 0, "", "x", False), (0, 0, "a", "x", False),
                (1, 0, "", "", False), (0, 1, "", "", False), (0, 1, "", "x", False), (0, 1, "A", "x", False),
                (0, 1, "a", "x" * 4000, True), (0, 1, "a", "x" * 4001, False), (0, 1, "a" * 12, "", True),
                (0, 1, "a" * 13, "", False)]:
            letter = plain_pack(["part", "t1", "3", "5", str(index), str(count), name, data])
            self.assertIs(self.check(letter), good, (index, count, name, len(data)))

    def test_other_texts(self):
        for text in ["", "ask", "0:", "3:ask", "3:ask2:t1", "3:ask2:t11:31:3", "5:asked2:t11:3", "3:Ask2:t11:3",
                     "1:a", "3:ask2:t11:3 ", " 3:ask2:t11:3", "0:3:ask2:t11:3"]:
            self.assertFalse(self.check(text))


if __name__ == "__main__":
    unittest.main()
