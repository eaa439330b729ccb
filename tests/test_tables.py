"""Tables: points 1.8 to 1.11."""

import random
import unittest

from lethe import tables
from lethe.errors import BadForm, Full, Missing, NotAllowed
from lethe.tables import Table, load_table
from tests.plain import (EQUAL_COINS, SIGNS, Case, near_texts, plain_cells, plain_coin, plain_items, plain_layout,
                         plain_pack, plain_table_image, shown_pairs)


def table_of(seed, pairs):
    table = Table(seed)
    for key in pairs:
        table.put(key, pairs[key])
    return table


def some_pairs(count, seed=1):
    choice = random.Random(seed)
    keys = choice.sample(range(10000), count)
    return {f"k{key}": "v" * choice.randrange(4) + str(key) for key in keys}


class TestTable(Case):
    def check_is(self, table, seed, pairs):
        self.assertEqual(table.size(), len(pairs))
        self.assertEqual(table.pairs(), sorted(pairs.items()))
        self.assertEqual(table.cells(), plain_cells(seed, pairs))
        self.assertEqual(table.image(), plain_table_image(seed, pairs))
        for key in pairs:
            self.assertIs(table.has(key), True)
            self.assertEqual(table.value_of(key), pairs[key])

    def test_example_and_constants(self):
        self.assertEqual(Table(7).image(), "0;........")
        self.assertEqual((tables.MAX_KEY, tables.MAX_VALUE, tables.MAX_PAIRS), (40, 600, 300))

    def test_empty(self):
        self.check_is(Table(0), 0, {})
        self.assertIs(Table(0).has("a"), False)
        self.assertEqual(Table(0).cells(), [None] * 8)

    def test_one_pair(self):
        table = table_of(7, {"a": "x;"})
        home = plain_coin(7, 1, "a") % 8
        self.assertEqual(table.image(), "1;" + "." * home + "1:a2:x;" + "." * (7 - home))

    def test_numbers_of_cells(self):
        for count, cells in [(0, 8), (1, 8), (6, 8), (7, 16), (12, 16), (13, 32), (24, 32), (25, 64), (48, 64),
                             (49, 128), (96, 128), (97, 256), (192, 256), (193, 512), (300, 512)]:
            pairs = some_pairs(count)
            table = table_of(3, pairs)
            self.assertEqual(len(table.cells()), cells)
            self.check_is(table, 3, pairs)

    def test_cells_shrink_when_pairs_are_dropped(self):
        pairs = some_pairs(25)
        table = table_of(4, pairs)
        for key in list(pairs):
            del pairs[key]
            table.drop(key)
            self.check_is(table, 4, pairs)

    def test_put_changes_a_value(self):
        table = table_of(5, {"a": "1", "b": "2"})
        table.put("a", "")
        self.check_is(table, 5, {"a": "", "b": "2"})

    def test_long_history_against_a_dict(self):
        choice = random.Random(6)
        for seed in [0, 7, 999999]:
            table = Table(seed)
            pairs = {}
            for step in range(400):
                key = str(choice.randrange(30))
                if choice.random() < 0.6:
                    pairs[key] = "v" * choice.randrange(5)
                    table.put(key, pairs[key])
                elif key in pairs:
                    del pairs[key]
                    table.drop(key)
                else:
                    self.fails(Missing, table.drop, key)
                if step % 10 == 0:
                    self.check_is(table, seed, pairs)

    def test_orders_of_changes_do_not_matter(self):
        pairs = some_pairs(40)
        expected = table_of(8, pairs)
        choice = random.Random(7)
        for _ in range(20):
            keys = list(pairs) + [f"gone{k}" for k in range(20)]
            choice.shuffle(keys)
            table = Table(8)
            for key in keys:
                table.put(key, "other")
            choice.shuffle(keys)
            for key in keys:
                if key in pairs:
                    table.put(key, pairs[key])
                else:
                    table.drop(key)
            self.assertEqual(table.cells(), expected.cells())
            self.assertEqual(table.image(), expected.image())

    def test_equal_coins(self):
        pairs = {key: "" for both in EQUAL_COINS for key in both}
        for seed in range(20):
            self.check_is(table_of(seed, pairs), seed, pairs)
            backwards = {key: pairs[key] for key in reversed(pairs)}
            self.check_is(table_of(seed, backwards), seed, pairs)

    def test_lengths(self):
        table = Table(1)
        table.put("k", "")
        table.put("k" * 40, "v" * 600)
        image = table.image()
        for key, value in [("", ""), ("k" * 41, ""), ("j", "v" * 601), ("", "v" * 601), ("k", "v" * 601)]:
            self.fails(NotAllowed, table.put, key, value)
        self.assertEqual(table.image(), image)

    def test_full(self):
        pairs = some_pairs(300)
        table = table_of(2, pairs)
        image = table.image()
        self.fails(Full, table.put, "one more", "")
        self.fails(NotAllowed, table.put, "", "")
        self.fails(NotAllowed, table.put, "one more", "v" * 601)
        self.assertEqual(table.image(), image)
        key = sorted(pairs)[150]
        table.put(key, "new")
        self.assertEqual(table.value_of(key), "new")
        table.drop(key)
        table.put("one more", "")
        self.assertEqual(table.size(), 300)

    def test_missing(self):
        table = table_of(1, {"a": "1"})
        for key in ["b", "", "A", "a ", "k" * 41]:
            self.assertIs(table.has(key), False)
            self.fails(Missing, table.drop, key)
            self.fails(Missing, table.value_of, key)
        self.check_is(table, 1, {"a": "1"})

    def test_returned_lists_are_new(self):
        table = table_of(1, {"a": "1", "b": "2"})
        image = table.image()
        table.pairs().clear()
        table.cells().clear()
        self.assertEqual((table.size(), table.image()), (2, image))


class TestLooks(Case):
    def plain_looks(self, seed, pairs, key):
        cells = plain_cells(seed, pairs)
        at = plain_coin(seed, 1, key) % len(cells)
        count = 0
        while True:
            count += 1
            cell = cells[at]
            if cell is None or cell[0] == key:
                return count
            rank, other = plain_coin(seed, 2, cell[0]), plain_coin(seed, 2, key)
            if rank < other or (rank == other and cell[0] > key):
                return count
            at = (at + 1) % len(cells)

    def test_empty_table(self):
        self.assertEqual(Table(3).looks("a"), 1)
        self.assertEqual(Table(3).looks(""), 1)
        self.assertEqual(Table(3).looks("k" * 50), 1)

    def test_many_looks(self):
        longest = 0
        for count in [1, 2, 5, 6, 7, 12, 24, 48, 192]:
            pairs = some_pairs(count, count)
            table = table_of(9, pairs)
            for key in list(pairs) + [str(k) for k in range(200)] + ["", "~" * 60]:
                expected = self.plain_looks(9, pairs, key)
                self.assertEqual(table.looks(key), expected)
                longest = max(longest, expected)
        self.assertGreater(longest, 4)

    def test_equal_coins(self):
        for first, second in EQUAL_COINS:
            lesser, greater = sorted([first, second])
            table = table_of(3, {greater: ""})
            self.assertEqual(table.looks(greater), 1)
            self.assertEqual(table.looks(lesser), 1)
            table = table_of(3, {lesser: ""})
            self.assertEqual(table.looks(greater), 2)
            table.put(greater, "")
            self.assertEqual((table.looks(lesser), table.looks(greater)), (1, 2))


class TestLoadTable(Case):
    def test_what_was_written_is_read(self):
        for count in [0, 1, 6, 7, 12, 13, 24, 25, 300]:
            pairs = some_pairs(count)
            table = load_table(5, plain_table_image(5, pairs))
            self.assertEqual(table.pairs(), sorted(pairs.items()))
            self.assertEqual(table.image(), plain_table_image(5, pairs))

    def test_a_loaded_table_goes_on(self):
        table = load_table(5, plain_table_image(5, {"a": "1", "b": "2"}))
        table.put("c", "3")
        table.drop("a")
        self.assertEqual(table.image(), plain_table_image(5, {"b": "2", "c": "3"}))

    def test_all_signs_and_lengths(self):
        pairs = {SIGNS[:40]: SIGNS, "k" * 40: "v" * 600, ".": "....", ";": ";", "1:a": "1:a"}
        self.assertEqual(load_table(6, plain_table_image(6, pairs)).pairs(), sorted(pairs.items()))

    def check_text(self, seed, text):
        pairs = shown_pairs(text)
        good = (pairs is not None and len(pairs) <= 300
                and all(1 <= len(key) <= 40 and len(value) <= 600 for key, value in pairs)
                and plain_table_image(seed, dict(pairs)) == text)
        if good:
            self.assertEqual(load_table(seed, text).image(), text)
        else:
            self.fails(BadForm, load_table, seed, text)
        return good

    def test_near_texts(self):
        good = 0
        for pairs in [{}, {"a": ""}, {"a": "12", "b": "", "c1": "x"}, some_pairs(7)]:
            for text in near_texts(plain_table_image(7, pairs)):
                good += self.check_text(7, text)
        self.assertGreater(good, 10)

    def test_another_seed(self):
        pairs = some_pairs(5)
        self.fails(BadForm, load_table, 8, plain_table_image(7, pairs))

    def test_each_pair_in_each_other_cell(self):
        pairs = {"a": "1", "b": "2", "c": "3", "d": "", "e": "5"}
        cells = ["." if c is None else plain_pack(list(c)) for c in plain_cells(7, pairs)]
        for i in range(8):
            for j in range(i):
                moved = list(cells)
                moved[i], moved[j] = moved[j], moved[i]
                if moved != cells:
                    self.fails(BadForm, load_table, 7, "5;" + "".join(moved))

    def test_cells_and_numbers(self):
        good = plain_table_image(7, {"a": "1"})
        for text in ["", ";", "0", "0;", "........", "0;.......", "0;.........", "0;" + "." * 16, "00;........",
                     "-0;........", "1;........", ";........", " 0;........", "0:........", "0;........;", good + ".",
                     "2" + good[1:], "0" + good[1:], "01" + good[1:], good[1:], good[:-1], "0;" + good]:
            self.fails(BadForm, load_table, 7, text)

    def test_a_key_twice(self):
        home = plain_coin(7, 1, "a") % 8
        for count in ["1", "2"]:
            cells = ["."] * 8
            cells[home] = cells[(home + 1) % 8] = "1:a1:x"
            self.fails(BadForm, load_table, 7, count + ";" + "".join(cells))
            cells[home] = "1:a1:y"
            self.fails(BadForm, load_table, 7, count + ";" + "".join(cells))

    def test_lengths(self):
        for key, value in [("", ""), ("", "x"), ("k" * 41, ""), ("a", "v" * 601)]:
            self.fails(BadForm, load_table, 7, plain_table_image(7, {key: value}))

    def test_too_many_pairs(self):
        self.fails(BadForm, load_table, 7, plain_table_image(7, some_pairs(301)))

    def test_too_many_cells(self):
        pairs = some_pairs(6)
        placed = plain_layout(16, plain_items(7, list(pairs)))
        shown = [plain_pack(pair) for pair in pairs.items()]
        image = "6;" + "".join("." if k < 0 else shown[k] for k in placed)
        self.fails(BadForm, load_table, 7, image)


if __name__ == "__main__":
    unittest.main()
