"""Words and names: points 4.1 and 4.2."""

import random
import re
import unittest

from lethe.words import is_name, words
from tests.plain import SIGNS, Case


class TestWords(Case):
    def test_examples(self):
        self.assertEqual(words("It's 2 O'Clock!"), ["it", "s", "2", "o", "clock"])
        self.assertEqual(words("forgetful"), ["forget"])

    def test_no_words(self):
        for text in ["", " ", "!?., ;", "".join(c for c in SIGNS if not c.isalnum())]:
            self.assertEqual(words(text), [])

    def test_six_and_seven_characters(self):
        self.assertEqual(words("abcdef abcdefg abcdefgh"), ["abcdef"] * 3)
        self.assertEqual(words("12345 123456 1234567"), ["12345", "123456", "123456"])
        self.assertEqual(words("abcdefghijklmnop"), ["abcdef"])

    def test_order_and_doubles(self):
        self.assertEqual(words("b a b  a1 1a"), ["b", "a", "b", "a1", "1a"])

    def test_each_sign(self):
        for sign in SIGNS:
            if sign.isalnum():
                self.assertEqual(words(f"x{sign}y"), ["x" + sign.lower() + "y"])
                self.assertEqual(words(sign), [sign.lower()])
            else:
                self.assertEqual(words(f"x{sign}y"), ["x", "y"])

    def test_many_texts(self):
        choice = random.Random(21)
        for _ in range(500):
            text = "".join(choice.choices("abzAZ09 .-'", k=choice.randrange(40)))
            expected = [run.lower()[:6] for run in re.findall("[A-Za-z0-9]+", text)]
            self.assertEqual(words(text), expected)

    def test_a_returned_list_is_new(self):
        words("a b").clear()
        self.assertEqual(words("a b"), ["a", "b"])


class TestIsName(Case):
    def test_names(self):
        for text in ["a", "z", "0", "9", "ab", "a1", "1a", "abc", "abcd", "0000", "zz99"]:
            self.assertIs(is_name(text), True)

    def test_other_texts(self):
        for text in ["", "abcde", "12345", "A", "aB", "a b", " a", "a ", "a.", ".", "a-b", "_", "a/", "`", "{", ":", "@"]:
            self.assertIs(is_name(text), False)

    def test_each_sign(self):
        for sign in SIGNS:
            self.assertIs(is_name(sign), sign in "abcdefghijklmnopqrstuvwxyz0123456789")
            self.assertIs(is_name("ab" + sign), sign in "abcdefghijklmnopqrstuvwxyz0123456789")


if __name__ == "__main__":
    unittest.main()
