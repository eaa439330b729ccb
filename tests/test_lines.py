"""Lines of a store: points 5.5 to 5.7."""

import random
import re
import unittest

from lethe.lines import is_change, line_text, read_line, read_number, spoken_of, split_line
from tests.plain import SIGNS, Case, near_texts
from tests.plain_store import FORMS, plain_line, plain_spoken, random_change, random_question

# For each kind of word good ones and others.
GOOD = {
    "K": ["a", "z9", "0", "abcd", "0000"],
    "X": ["0", "1", "9", "10", "99"],
    "L": ["0", "1", "2", "3"],
    "N": ["1", "2", "10", "99"],
    "R": ["0", "1", "99", "100", "2147483645", "2147483646"],
    "T": ['""', '"red fox"', '"it\'s"', '"' + "x" * 16 + '"', '"  "', '"()|&!*+"'],
    "Q": ['"red"', '" a & !( b | C* ) "', '"a+b"', '"' + "x" * 40 + '"'],
}
WRONG = {
    "K": ["", "A", "abcde", '"a"', "a.", "a,b", '""', "-", "a-b"],
    "X": ["", "100", "00", "01", "099", "-1", "+1", "1.0", "a", '"1"', "1a", "1000", "x", "1e1"],
    "L": ["", "4", "00", "03", "10", "-1", "+0", "a", '"1"', "3.0"],
    "N": ["", "0", "00", "01", "100", "-1", "+1", "a", '"1"'],
    "R": ["", "2147483647", "2147483650", "3000000000", "10000000000", "00", "01", "-1", "+1", "a", '"1"', "9" * 30],
    "T": ["", "red", '"' + "x" * 17 + '"', '"red', 'red"', '"red""', '""red"', "'red'", '"a"b"', '"' + chr(37) + '"'],
    "Q": ["", "red", '""', '"a b"', '"a|"', '"' + "x" * 41 + '"', '"' + "(" * 9 + "a" + ")" * 9 + '"', '"a.b"', '" "'],
}


def good_lines():
    """Return lines of each form with each good word in each place."""
    lines = []
    for word, kinds in FORMS.items():
        first = [GOOD[kind][0] for kind in kinds]
        lines.append(" ".join([word] + first))
        for at, kind in enumerate(kinds):
            lines += [" ".join([word] + first[:at] + [other] + first[at + 1:]) for other in GOOD[kind]]
    return lines


def plain_words_of(line):
    """Return the words of a line by a pattern."""
    word = r'(?:[^ "]+|"[^"]*")'
    if not re.fullmatch(f"({word}( {word})*)?", line):
        return None
    return [(text.startswith('"'), text.strip('"')) for text in re.findall(word, line)]


class TestSplitLine(Case):
    def test_examples(self):
        self.assertIsNone(split_line('ask"red"'))
        self.assertEqual(split_line(""), [])

    def test_by_hand(self):
        self.assertEqual(split_line("a"), [(False, "a")])
        self.assertEqual(split_line('""'), [(True, "")])
        self.assertEqual(split_line('" "'), [(True, " ")])
        self.assertEqual(split_line('"a b" c "" it\'s'), [(True, "a b"), (False, "c"), (True, ""), (False, "it's")])
        self.assertEqual(split_line('x "  y  "'), [(False, "x"), (True, "  y  ")])
        for line in [" ", "a ", " a", "a  b", '"', 'a"', '"a', 'a "b', '"a"b', 'a"b', 'a"b"', '"a""b"', '"""', ' ""',
                     '"" ', '""  ""', '"a" ', "  "]:
            self.assertIsNone(split_line(line), line)

    def test_short_lines(self):
        lines = [""]
        for line in lines:
            self.assertEqual(split_line(line), plain_words_of(line), line)
            if len(line) < 6:
                lines += [line + sign for sign in 'a "']

    def test_long_lines(self):
        self.assertEqual(split_line("a" * 500), [(False, "a" * 500)])
        self.assertEqual(split_line(" ".join("b" * 200)), [(False, "b")] * 200)

    def test_each_sign(self):
        for sign in SIGNS:
            if sign not in ' "':
                self.assertEqual(split_line(sign), [(False, sign)])
            if sign != '"':
                self.assertEqual(split_line(f'"{sign}"'), [(True, sign)])

    def test_a_returned_list_is_new(self):
        split_line("a b").clear()
        self.assertEqual(split_line("a b"), [(False, "a"), (False, "b")])


class TestReadNumber(Case):
    def test_numbers(self):
        for number in [0, 1, 9, 10, 99, 100, 2147483646, 2147483647]:
            for least, most in [(0, 99), (1, 99), (0, 3), (0, 2147483646), (0, 0), (100, 100), (0, 2147483647)]:
                expected = number if least <= number <= most else None
                self.assertEqual(read_number(str(number), least, most), expected)

    def test_other_texts(self):
        for text in ["", "00", "01", "-1", "+1", " 1", "1 ", "1.0", "a", "1a", "0x1", "1_0", "-0", "--1", "1,0"]:
            for least, most in [(0, 99), (0, 2147483646), (-5, 5)]:
                self.assertIsNone(read_number(text, least, most))

    def test_digits_of_other_scripts(self):
        for text in ["\u0663", "\u00b2", "\uff11"]:
            self.assertIsNone(read_number(text, 0, 99))

    def test_very_long_texts(self):
        self.assertIsNone(read_number("9" * 10000, 0, 99))
        self.assertIsNone(read_number("0" * 10000, 0, 99))


class TestReadLine(Case):
    def check(self, line):
        parsed = plain_line(line)
        self.assertEqual(read_line(line), parsed, line)
        if parsed is not None:
            self.assertEqual([type(part) for part in read_line(line)], [type(part) for part in parsed])
            self.assertEqual(line_text(parsed), line)
            self.assertIs(is_change(parsed), parsed[0] in ["put", "drop", "hold", "free"])
            self.assertEqual(spoken_of(parsed), plain_spoken(line))
        return parsed is not None

    def test_examples(self):
        self.assertEqual(read_line('put a1 3 4 2 "red fox"'), ("put", "a1", 3, 4, 2, "red fox"))
        self.assertEqual(spoken_of(("span", "a", "b")), ["a", "b"])

    def test_by_hand(self):
        for line, parsed in [
                ("drop a", ("drop", "a")), ("hold a me", ("hold", "a", "me")), ("free a me", ("free", "a", "me")),
                ("get 1", ("get", "1")), ("count", ("count",)), ("rank a", ("rank", "a")),
                ("span b a", ("span", "b", "a")), ('ask "a & B"', ("ask", "a & B")),
                ("in 0 1 98 99", ("in", 0, 1, 98, 99)), ("view", ("view",)), ("near 0 99 1", ("near", 0, 99, 1)),
                ("receipt a", ("receipt", "a")), ("check a 0", ("check", "a", 0)),
                ('put 1 1 1 1 ""', ("put", "1", 1, 1, 1, ""))]:
            self.assertEqual(read_line(line), parsed)
            self.assertEqual(line_text(parsed), line)

    def test_spoken_names_by_hand(self):
        for line, names in [("put k 1 2 3 \"a\"", ["k"]), ("drop k", ["k"]), ("hold k h", ["k"]), ("free k h", ["k"]),
                            ("get k", ["k"]), ("count", []), ("rank k", ["k"]), ("span k k", ["k"]),
                            ("span b a", ["b", "a"]), ('ask "k"', []), ("in 1 2 3 4", []), ("near 1 2 3", []),
                            ("view", []), ("receipt k", ["k"]), ("check k 5", ["k"])]:
            self.assertEqual(spoken_of(read_line(line)), names)
            self.assertIs(is_change(read_line(line)), line[:4].strip() in ["put", "drop", "hold", "free"])

    def test_good_lines(self):
        for line in good_lines():
            self.assertTrue(self.check(line), line)

    def test_a_word_of_another_kind_or_out_of_range(self):
        for word, kinds in FORMS.items():
            first = [GOOD[kind][0] for kind in kinds]
            for at, kind in enumerate(kinds):
                for other in WRONG[kind]:
                    self.assertFalse(self.check(" ".join([word] + first[:at] + [other] + first[at + 1:])),
                                     (word, other))

    def test_a_word_too_few_and_too_many(self):
        for word, kinds in FORMS.items():
            words = [word] + [GOOD[kind][0] for kind in kinds]
            for at in range(len(words)):
                self.assertFalse(self.check(" ".join(words[:at] + words[at + 1:])))
                self.assertFalse(self.check(" ".join(words[:at] + words[at:at + 1] + words[at:])))
            for more in ["a", "0", "1", '""', '"a"', ""]:
                self.assertFalse(self.check(" ".join(words + [more])))
                self.assertFalse(self.check(" ".join([more] + words)))

    def test_spaces(self):
        for line in good_lines():
            if '"' not in line:
                for wrong in [" " + line, line + " ", line.replace(" ", "  ") + " " * (" " not in line)]:
                    self.assertFalse(self.check(wrong))
                self.assertFalse(self.check(line.replace(" ", "\t") + "\t" * (" " not in line)))

    def test_quoted_words(self):
        for word, kinds in FORMS.items():
            words = [word] + [GOOD[kind][0] for kind in kinds]
            for at in range(len(words)):
                other = words[at].strip('"') if words[at].startswith('"') else f'"{words[at]}"'
                self.assertFalse(self.check(" ".join(words[:at] + [other] + words[at + 1:])))

    def test_lines_of_sixty_and_sixty_one_characters(self):
        # The longest line has a question of 40 characters, so that no line of the right form is too long.
        self.assertTrue(self.check('ask "' + "a" + " " * 39 + '"'))
        self.assertEqual(max(len(line) for line in good_lines()), 46)
        for length in range(58, 64):
            self.assertFalse(self.check("get " + "a" * (length - 4)))
            self.assertFalse(self.check("count" + " " * (length - 5)))
            self.assertFalse(self.check('ask "' + "a" * (length - 6) + '"'))

    def test_first_words(self):
        for line in ["", "a", "PUT", "Count", "counts", "coun", '"count"', "erase a", "bad", "has a", "size", "names",
                     "log", "do count", "forget a", "status a", "answer", "run", "0", "get", "put", "in", "ask"]:
            self.assertFalse(self.check(line))

    def test_near_lines(self):
        good = 0
        for line in ['put a1 3 4 2 "red fox"', "drop b", "hold a me", "span a b", 'ask "a & !(b)"', "in 1 20 3 40",
                     "near 1 2 10", "view", "count", "check a 2147483646", "receipt z", "rank a", "free a b", "get a"]:
            for text in near_texts(line, 'a1 9"0A'):
                good += self.check(text)
        self.assertGreater(good, 200)

    def test_random_lines(self):
        choice = random.Random(55)
        for _ in range(300):
            self.assertTrue(self.check(random_change(choice, ["a", "b1", "zz9z"])))
            self.assertTrue(self.check(random_question(choice, ["a", "b1", "zz9z"])))

    def test_a_returned_list_is_new(self):
        parsed = read_line("span a b")
        spoken_of(parsed).clear()
        self.assertEqual(spoken_of(parsed), ["a", "b"])


if __name__ == "__main__":
    unittest.main()
