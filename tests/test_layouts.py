"""Layouts: points 1.6 and 1.7."""

import random
import unittest

from lethe.errors import Full, NotAllowed
from lethe.layouts import layout
from tests.plain import Case, plain_layout


class TestLayout(Case):
    def test_example(self):
        items = [(13, 13, "c"), (5, 5, "b"), (21, 21, "d"), (6, 6, "a")]
        self.assertEqual(layout(8, items), [1, -1, -1, -1, -1, 2, 0, 3])

    def test_no_items(self):
        self.assertEqual(layout(1, []), [-1])
        self.assertEqual(layout(5, []), [-1] * 5)
        self.assertEqual(layout(4096, []), [-1] * 4096)

    def test_greater_rank_first(self):
        self.assertEqual(layout(3, [(0, 1, "a"), (0, 2, "b"), (0, 10, "c")]), [2, 1, 0])

    def test_equal_ranks_take_the_lesser_key_first(self):
        self.assertEqual(layout(3, [(0, 4, "b"), (0, 4, "a"), (0, 4, "B")]), [2, 1, 0])
        self.assertEqual(layout(3, [(1, 4, "ab"), (1, 4, "a"), (1, 4, "")]), [0, 2, 1])
        self.assertEqual(layout(2, [(0, 0, "10"), (0, 0, "9")]), [0, 1])

    def test_home_is_taken_modulo_the_cells(self):
        self.assertEqual(layout(4, [(4, 0, "a")]), [0, -1, -1, -1])
        self.assertEqual(layout(4, [(2147483646, 0, "a")]), [-1, -1, 0, -1])
        self.assertEqual(layout(1, [(17, 3, "a")]), [0])

    def test_from_the_last_cell_to_cell_0(self):
        self.assertEqual(layout(3, [(2, 5, "a"), (2, 4, "b"), (2, 3, "c")]), [1, 2, 0])

    def test_limits_of_the_cells(self):
        for cells in [0, -1, 4097, 5000, -4096]:
            self.fails(NotAllowed, layout, cells, [])
            self.fails(NotAllowed, layout, cells, [(0, 0, "a"), (0, 0, "b")])
        self.fails(NotAllowed, layout, 4097, [(k, k, str(k)) for k in range(4098)])

    def test_one_item_more_than_cells(self):
        for cells in [1, 2, 8, 4096]:
            items = [(7 * k, k // 3, str(k)) for k in range(cells + 1)]
            self.fails(Full, layout, cells, items)
            self.assertEqual(sorted(layout(cells, items[:-1])), list(range(cells)))

    def test_all_homes_alike(self):
        items = [(3, k, str(k)) for k in range(300)]
        self.assertEqual(layout(300, items), [(2 - k) % 300 for k in range(300)])

    def test_many_layouts(self):
        choice = random.Random(4)
        for _ in range(300):
            cells = choice.choice([1, 2, 3, 8, 13, 64])
            keys = choice.sample(range(1000), choice.randrange(cells + 1))
            items = [(choice.randrange(3 * cells), choice.randrange(4), str(key)) for key in keys]
            given = list(items)
            self.assertEqual(layout(cells, items), plain_layout(cells, items))
            self.assertEqual(items, given)

    def test_the_order_of_the_list_does_not_matter(self):
        choice = random.Random(5)
        items = [(choice.randrange(40), choice.randrange(5), str(k)) for k in range(30)]
        expected = [None if k < 0 else items[k] for k in layout(40, items)]
        for _ in range(50):
            choice.shuffle(items)
            self.assertEqual([None if k < 0 else items[k] for k in layout(40, items)], expected)


if __name__ == "__main__":
    unittest.main()
