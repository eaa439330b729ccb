"""Packing: points 1.3 and 1.4."""

import random
import unittest

from lethe.errors import BadForm, NotAllowed
from lethe.packing import digits, number_of, pack, unpack
from tests.plain import SIGNS, Case, near_texts, plain_pack, plain_unpack


class TestPack(Case):
    def test_examples(self):
        self.assertEqual(pack(["ab", "", "c:d"]), "2:ab0:3:c:d")
        self.assertEqual(unpack("2:ab0:"), ["ab", ""])
        self.fails(BadForm, unpack, "02:ab")

    def test_edges(self):
        self.assertEqual(pack([]), "")
        self.assertEqual(unpack(""), [])
        self.assertEqual(pack([""]), "0:")
        self.assertEqual(unpack("0:"), [""])
        self.assertEqual(pack(["", ""]), "0:0:")
        self.assertEqual(pack(["x" * 10]), "10:" + "x" * 10)
        self.assertEqual(pack(["x" * 123456]), "123456:" + "x" * 123456)
        self.assertEqual(unpack("123456:" + "x" * 123456), ["x" * 123456])

    def test_all_signs(self):
        self.assertEqual(pack([SIGNS]), f"{len(SIGNS)}:" + SIGNS)
        self.assertEqual(unpack(pack([SIGNS, SIGNS])), [SIGNS, SIGNS])

    def test_many_lists(self):
        choice = random.Random(1)
        for _ in range(300):
            parts = ["".join(choice.choices(SIGNS, k=choice.choice([0, 1, 2, 9, 10, 11, 100])))
                     for _ in range(choice.randrange(6))]
            given = list(parts)
            self.assertEqual(pack(parts), plain_pack(parts))
            self.assertEqual(unpack(pack(parts)), parts)
            self.assertEqual(parts, given)

    def test_packed_texts_differ(self):
        lists = [[], [""], ["", ""], ["0:"], ["a"], ["a", ""], ["", "a"], ["1:a"], ["a", "a"], ["aa"]]
        self.assertEqual(len({pack(parts) for parts in lists}), len(lists))

    def test_a_returned_list_is_new(self):
        first = unpack("1:a")
        first.append("b")
        self.assertEqual(unpack("1:a"), ["a"])


class TestUnpackErrors(Case):
    def test_wrong_texts(self):
        for text in ["a", ":", ":a", "1", "1:", "2:a", "00:", "01:a", "-1:", "+1:a", " 1:a", "1 :a", "1:aa",
                     "1:a0", "1:a1:", "1;a", "x1:a", "1a:a", "1:a:", "0:0", "--", "0x1:a", "1_0:" + "a" * 10]:
            self.fails(BadForm, unpack, text)

    def test_lengths_of_nine_and_ten_digits(self):
        self.fails(BadForm, unpack, "999999999:a")
        self.fails(BadForm, unpack, "1000000000:a")
        self.fails(BadForm, unpack, "0000000001:a")
        self.fails(BadForm, unpack, "000000001:a")
        self.fails(BadForm, unpack, "1" * 5000 + ":a")

    def test_a_length_of_nine_digits_is_allowed(self):
        part = "x" * 100000000
        self.assertTrue(pack([part, "y"]) == "100000000:" + part + "1:y")
        self.assertTrue(unpack("100000000:" + part + "1:y") == [part, "y"])
        self.fails(BadForm, unpack, "0100000000:" + part)
        self.fails(BadForm, unpack, "100000001:" + part)

    def test_near_texts(self):
        for parts in [["ab", "", "c:d"], ["12:", "x" * 11], ["0:"]]:
            for text in near_texts(pack(parts), SIGNS):
                if plain_unpack(text) is None:
                    self.fails(BadForm, unpack, text)
                else:
                    self.assertEqual(unpack(text), plain_unpack(text))

    def test_random_texts(self):
        choice = random.Random(2)
        for _ in range(20000):
            text = "".join(choice.choices("012:a", k=choice.randrange(9)))
            if plain_unpack(text) is None:
                self.fails(BadForm, unpack, text)
            else:
                self.assertEqual(pack(unpack(text)), text)


class TestDigits(Case):
    def test_every_width(self):
        for width in range(1, 10):
            self.assertEqual(digits(0, width), "0" * width)
            self.assertEqual(digits(7, width), "7".rjust(width, "0"))
            self.assertEqual(digits(10 ** width - 1, width), "9" * width)
            self.assertEqual(digits(10 ** (width - 1), width), "1" + "0" * (width - 1))
            self.fails(NotAllowed, digits, 10 ** width, width)
            self.fails(NotAllowed, digits, -1, width)

    def test_wrong_widths(self):
        for width in [0, 10, -1, 11, 100, -100]:
            for number in [0, 1, 10 ** 9, -1]:
                self.fails(NotAllowed, digits, number, width)

    def test_far_numbers(self):
        self.fails(NotAllowed, digits, 10 ** 10, 9)
        self.fails(NotAllowed, digits, 10 ** 6000, 9)
        self.fails(NotAllowed, digits, -10 ** 6000, 9)
        self.fails(NotAllowed, digits, -12, 3)


class TestNumberOf(Case):
    def test_numbers(self):
        for number in [0, 1, 9, 10, 99, 100, 12345, 100000000, 999999999]:
            self.assertEqual(number_of(str(number)), number)

    def test_wrong_texts(self):
        for text in ["", "00", "01", "0123", "1000000000", "0000000000", "-1", "-0", "+1", " 1", "1 ", "1.0", "a", "1a",
                     "1_0", "0x1", "1,0", "1e3", ":", "9" * 5000]:
            self.fails(BadForm, number_of, text)


if __name__ == "__main__":
    unittest.main()
