"""Lines of a hall: points 5.5, 6.3, 6.4 and 6.18."""

import itertools
import random
import unittest

from lethe.hall_lines import is_done, read_hall_line, speaks
from tests.plain import Case, near_texts
from tests.plain_hall import FORMS, plain_hall_line, plain_hall_spoken
from tests.plain_store import plain_done, plain_line, plain_spoken, random_change, random_question
from tests.test_lines import good_lines

GOOD = {
    "N": ["x", "z9", "0", "abcd", "0000"],
    "K": ["a", "y8", "1", "efgh", "1111"],
    "L": ["0", "1", "2", "3"],
    "S": good_lines(),
}
WRONG = {
    "N": ["", "A", "abcde", '"x"', "a.", "a,b", '""', "-"],
    "K": ["", "A", "abcde", '"x"', "a.", "a,b", '""', "-"],
    "L": ["", "4", "00", "01", "10", "-1", "+1", "a", '"1"', "1.0"],
    "S": ["", "a", "do count", "log", "count ", " count", "count  ", "get  a", "get A", "get", "get a b", '"count"',
          "erase a", "put a 1 2 3 red", 'put a 1 2 4 "red"', 'ask "a b"', "drop a me", "count 0", "COUNT"],
}
HOUSE = ["forget a", "status a", "forget 1111", "status zz9z"]


def hall_lines():
    """Return lines of each form with each good word in each place."""
    lines = []
    for command, kinds in FORMS.items():
        first = [GOOD[kind][0] for kind in kinds]
        lines.append(" ".join([command] + first))
        for at, kind in enumerate(kinds):
            lines += [" ".join([command] + first[:at] + [other] + first[at + 1:]) for other in GOOD[kind]]
    return lines


class LinesCase(Case):
    def check(self, line):
        """Check a line against the plain reading of it; tell whether it is a line of a hall."""
        parsed = plain_hall_line(line)
        self.assertEqual(read_hall_line(line), parsed, line)
        if parsed is not None:
            self.assertEqual([type(part) for part in read_hall_line(line)], [type(part) for part in parsed])
        names = plain_hall_spoken(line)
        for key in names + ["a", "b", "x", "z9", "me", "none", "", "A", "ab"]:
            self.assertIs(speaks(line, key), key in names, (line, key))
        return parsed is not None


class TestReadHallLine(LinesCase):
    def test_examples(self):
        self.assertEqual(read_hall_line("at x get a"), ("at", "x", "get a"))
        self.assertEqual(read_hall_line("link a 2 b"), ("link", "a", 2, "b"))

    def test_by_hand(self):
        for line, parsed in [
                ('do put a 1 2 3 "red  fox"', ("do", 'put a 1 2 3 "red  fox"')), ("begin", ("begin",)),
                ("commit", ("commit",)), ("abort", ("abort",)), ("leave", ("leave",)), ("snap x", ("snap", "x")),
                ("unsnap x", ("unsnap", "x")), ("at x drop a", ("at", "x", "drop a")),
                ("pin x drop a", ("pin", "x", "drop a")), ("pin x count", ("pin", "x", "count")),
                ("unpin x", ("unpin", "x")), ("pinned x", ("pinned", "x")), ("unlink a 0 a", ("unlink", "a", 0, "a")),
                ("out a", ("out", "a")), ("way a b", ("way", "a", "b")), ("log", ("log",)), ("stats", ("stats",)),
                ("erase a", ("erase", "a")), ("do count", ("do", "count"))]:
            self.assertEqual(read_hall_line(line), parsed)

    def test_good_lines(self):
        for line in hall_lines():
            self.assertTrue(self.check(line), line)

    def test_a_word_of_another_kind(self):
        for command, kinds in FORMS.items():
            first = [GOOD[kind][0] for kind in kinds]
            for at, kind in enumerate(kinds):
                for other in WRONG[kind]:
                    line = " ".join([command] + first[:at] + [other] + first[at + 1:])
                    self.assertFalse(self.check(line), line)

    def test_a_word_too_few_and_too_many(self):
        for command, kinds in FORMS.items():
            words = [command] + [GOOD[kind][0] for kind in kinds]
            for at in range(len(words)):
                self.assertFalse(self.check(" ".join(words[:at] + words[at + 1:])))
                self.assertFalse(self.check(" ".join(words[:at] + words[at:at + 1] + words[at:])))
            for more in ["a", "0", '""', '"a"', ""]:
                self.assertFalse(self.check(" ".join(words + [more])))
                self.assertFalse(self.check(" ".join([more] + words)))

    def test_spaces(self):
        for line in hall_lines():
            for at in range(len(line)):
                if line[at] == " " and '"' not in line[:at]:
                    self.assertFalse(self.check(line[:at] + " " + line[at:]))
                    self.assertFalse(self.check(line[:at] + "\t" + line[at + 1:]))

    def test_quoted_words(self):
        for command, kinds in FORMS.items():
            words = [command] + [GOOD[kind][0] for kind in kinds]
            for at in range(len(words)):
                self.assertFalse(self.check(" ".join(words[:at] + [f'"{words[at]}"'] + words[at + 1:])))

    def test_no_commands(self):
        for line in ["", " ", "a", "DO count", "Log", "logs", "lo", "count", "get a", 'put a 1 2 3 ""', "bad", "do",
                     "at x", "pin x", "log a", "doo count"] + HOUSE:
            self.assertIsNone(read_hall_line(line))

    def test_lengths(self):
        # No name, digit or store line is so long that a line of one of the forms has more than 80 characters.
        longest = 'ask "' + "a" * 40 + '"'
        self.assertTrue(self.check("do " + longest))
        self.assertTrue(self.check("at abcd " + longest))
        self.assertTrue(self.check("pin abcd " + longest))
        for length in [60, 61, 72, 73, 74, 80, 81, 82, 500]:
            for head in ["do ", "at x ", "pin x ", "at abcd ", "pin abcd "]:
                self.assertFalse(self.check((head + 'ask "a').ljust(length - 1, "a") + '"'))
                self.assertFalse(self.check((head + "get ").ljust(length, "a")))
                self.assertFalse(self.check(head + 'ask "a'.ljust(length - 1, "a") + '"'))
                self.assertFalse(self.check((head + "count").ljust(length)))
            self.assertFalse(self.check("log".ljust(length)))
            self.assertFalse(self.check("snap ".ljust(length, "a")))

    def test_near_lines(self):
        good = 0
        for line in ['do put a1 3 4 2 "red"', "begin", "snap x", "at x get a", "pin x span a b", "link a 2 b",
                     "way a b", "erase a", "do drop b", "log", "out a", "forget a", "status b", 'at x ask "a&b"']:
            for text in near_texts(line, 'ax1 4"A'):
                good += self.check(text)
        self.assertGreater(good, 100)


class TestSpeaks(LinesCase):
    def check_names(self, line, names):
        for key in ["a", "b", "k", "m", "x", "me", "none", "1", "0", "ab", "", "A", "a b"]:
            self.assertIs(speaks(line, key), key in names, (line, key))

    def test_example(self):
        self.assertIs(speaks("pin p span a b", "b"), True)

    def test_commands(self):
        for line, names in [
                ("begin", []), ("commit", []), ("abort", []), ("leave", []), ("snap a", []), ("unsnap a", []),
                ("unpin a", []), ("pinned a", []), ("link a 1 b", ["a", "b"]), ("unlink a 0 a", ["a"]),
                ("out a", ["a"]), ("way a b", ["a", "b"]), ("log", []), ("stats", []), ("erase a", ["a"]),
                ("forget a", ["a"]), ("status k", ["k"])]:
            self.check_names(line, names)

    def test_store_lines(self):
        for line, names in [
                ('put a 1 0 1 "k me"', ["a"]), ("drop a", ["a"]), ("hold a me", ["a"]), ("free a me", ["a"]),
                ("get a", ["a"]), ("count", []), ("rank a", ["a"]), ("span a b", ["a", "b"]), ("span k k", ["k"]),
                ('ask "a"', []), ("in 1 0 1 0", []), ("near 1 0 1", []), ("view", []), ("receipt a", ["a"]),
                ("check a 1", ["a"])]:
            for head in ["do ", "at x ", "at a ", "pin x ", "pin k "]:
                self.check_names(head + line, names)
            self.check_names(line, [])

    def test_bad_lines(self):
        for line in ["forget", "forget ", "forget  a", "forget a ", " forget a", "forget a b", "forget A", 'forget "a"',
                     "status", "status a b", "Forget a", "erase", "erase a b", "erase  a", "out a b", "link a 4 b",
                     "link a b", "way a", "do get a b", "do  get a", "get a", "erased a", "do erase a", "at x forget a",
                     "a", "", "do"]:
            self.check_names(line, [])

    def test_random_lines(self):
        choice = random.Random(618)
        keys = ["a", "b", "x", "z9", "me"]
        for _ in range(200):
            for line in [random_change(choice, keys), random_question(choice, keys)]:
                head = choice.choice(["do", "at x", "pin x", "at a", "pin me", "erase", ""])
                self.check(f"{head} {line}")
                self.assertEqual(plain_hall_spoken(f"do {line}"), plain_spoken(line))


class TestIsDone(Case):
    def test_each_answer(self):
        answers = ["new", "changed", "gone", "ok", "due", "none", "held", "full", "free", "bad", "true", "0", "-", ""]
        for line, answered in itertools.product(good_lines() + ["", "drop", "log", "do drop a", "drop  a"], answers):
            self.assertIs(is_done(line, answered), plain_done(line, answered), (line, answered))

    def test_due(self):
        self.assertIs(is_done("drop a", "due"), True)
        self.assertIs(is_done('put a 1 2 3 "x"', "due"), False)
        self.assertIs(is_done("free a me", "free"), False)
        self.assertIsNotNone(plain_line("drop a"))


if __name__ == "__main__":
    unittest.main()
