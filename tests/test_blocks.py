"""Blocks and power: points 3.1 and 3.2."""

import random
import unittest

from lethe import blocks
from lethe.blocks import Medium
from lethe.errors import Down, Missing, NotAllowed
from tests.plain import SIGNS, Case

BLANK = " " * 64
OLD = "old" + "-" * 61
NEW = "new" + "+" * 61


class TestMedium(Case):
    def test_constants(self):
        self.assertEqual((blocks.BLOCK, blocks.BLANK), (64, BLANK))

    def test_numbers_of_blocks(self):
        for count in [1, 2, 800, 801]:
            medium = Medium(count)
            self.assertEqual(medium.size(), count)
            self.assertEqual(medium.blocks(), [BLANK] * count)
            self.assertEqual(medium.writes(), 0)
            self.assertIs(medium.is_down(), False)
            self.assertEqual(medium.read(count - 1), BLANK)
            self.fails(Missing, medium.read, count)
            self.fails(Missing, medium.write, count, NEW)
        for count in [0, 802, -1, 1000, -801]:
            self.fails(NotAllowed, Medium, count)

    def test_writes_without_a_limit(self):
        choice = random.Random(15)
        medium = Medium(5)
        texts = [BLANK] * 5
        for count in range(1, 300):
            index = choice.randrange(5)
            texts[index] = "".join(choice.choices(SIGNS, k=64))
            self.assertIsNone(medium.write(index, texts[index]))
            self.assertEqual(medium.blocks(), texts)
            self.assertEqual([medium.read(k) for k in range(5)], texts)
            self.assertEqual(medium.writes(), count)

    def test_a_returned_list_is_new(self):
        medium = Medium(2)
        medium.blocks()[0] = NEW
        self.assertEqual(medium.blocks(), [BLANK, BLANK])

    def test_wrong_indexes_and_blocks(self):
        medium = Medium(3)
        medium.write(1, OLD)
        for index in [-1, -3, 3, 4, 100]:
            self.fails(Missing, medium.read, index)
            for block in [NEW, "", NEW + "x"]:
                self.fails(Missing, medium.write, index, block)
        for block in ["", "x", NEW[1:], NEW + "x", NEW + NEW]:
            self.fails(NotAllowed, medium.write, 1, block)
        self.assertEqual(medium.blocks(), [BLANK, OLD, BLANK])
        self.assertEqual(medium.writes(), 1)


class TestPower(Case):
    def test_limits_of_supply(self):
        medium = Medium(1)
        for writes in [-1, 0, 1, 100000]:
            for torn in [0, 1, 63]:
                self.assertIsNone(medium.supply(writes, torn))
                self.assertIs(medium.is_down(), False)
        for writes, torn in [(-2, 0), (100001, 0), (0, -1), (0, 64), (-1, -1), (-1, 64), (-2, 64), (100001, -1)]:
            self.fails(NotAllowed, medium.supply, writes, torn)

    def test_a_refused_supply_changes_nothing(self):
        medium = Medium(1)
        medium.write(0, OLD)
        medium.supply(1, 2)
        for writes, torn in [(-2, 0), (100001, 5), (5, -1), (5, 64)]:
            self.fails(NotAllowed, medium.supply, writes, torn)
        medium.write(0, OLD)
        self.fails(Down, medium.write, 0, NEW)
        self.assertEqual(medium.read(0), NEW[:2] + OLD[2:])
        self.fails(NotAllowed, medium.supply, 5, 64)
        self.assertIs(medium.is_down(), True)

    def test_whole_and_torn_writes(self):
        for writes in [0, 1, 2, 7]:
            for torn in [0, 1, 2, 32, 62, 63]:
                medium = Medium(2)
                medium.write(0, OLD)
                medium.write(1, OLD)
                medium.supply(writes, torn)
                for k in range(writes):
                    self.assertIs(medium.is_down(), False)
                    medium.write(k % 2, OLD)
                self.assertIs(medium.is_down(), False)
                self.assertEqual(medium.writes(), 2 + writes)
                self.fails(Down, medium.write, 1, NEW)
                self.assertIs(medium.is_down(), True)
                self.assertEqual(medium.blocks(), [OLD, NEW[:torn] + OLD[torn:]])
                self.check_off(medium)
                self.assertEqual(medium.writes(), 2 + writes)

    def check_off(self, medium):
        texts = medium.blocks()
        for index in [0, 1, 0]:
            self.fails(Down, medium.write, index, NEW)
            self.assertEqual(medium.read(index), texts[index])
        self.fails(Missing, medium.write, 2, NEW)
        self.fails(Missing, medium.write, -1, "")
        self.fails(NotAllowed, medium.write, 0, NEW + "x")
        self.fails(Missing, medium.read, 2)
        self.assertEqual(medium.blocks(), texts)
        self.assertIs(medium.is_down(), True)

    def test_new_power(self):
        medium = Medium(1)
        medium.supply(0, 0)
        self.fails(Down, medium.write, 0, NEW)
        medium.supply(1, 63)
        self.assertIs(medium.is_down(), False)
        medium.write(0, OLD)
        self.fails(Down, medium.write, 0, "x" * 64)
        self.assertEqual(medium.read(0), "x" * 63 + OLD[63:])
        medium.supply(-1, 5)
        for _ in range(50):
            medium.write(0, NEW)
        self.assertEqual((medium.writes(), medium.read(0)), (51, NEW))

    def test_a_supply_replaces_the_one_before(self):
        medium = Medium(1)
        medium.supply(0, 7)
        medium.supply(2, 1)
        medium.write(0, OLD)
        medium.supply(1, 3)
        medium.write(0, OLD)
        self.fails(Down, medium.write, 0, NEW)
        self.assertEqual(medium.read(0), NEW[:3] + OLD[3:])
        medium.supply(0, 0)
        medium.supply(-1, 0)
        medium.write(0, NEW)
        self.assertEqual(medium.writes(), 3)

    def test_a_great_supply(self):
        medium = Medium(1)
        medium.supply(100000, 0)
        for _ in range(100000):
            medium.write(0, NEW)
        self.fails(Down, medium.write, 0, OLD)
        self.assertEqual((medium.writes(), medium.read(0)), (100000, NEW))

    def test_refused_writes_do_not_count(self):
        medium = Medium(1)
        medium.supply(1, 4)
        self.fails(Missing, medium.write, 1, NEW)
        self.fails(NotAllowed, medium.write, 0, "")
        medium.write(0, OLD)
        self.fails(Missing, medium.write, -1, NEW)
        self.fails(NotAllowed, medium.write, 0, NEW + " ")
        self.assertIs(medium.is_down(), False)
        self.fails(Down, medium.write, 0, NEW)
        self.assertEqual((medium.read(0), medium.writes()), (NEW[:4] + OLD[4:], 1))


if __name__ == "__main__":
    unittest.main()
