"""Trees: points 2.1 to 2.5 and 2.8."""

import functools
import random
import unittest

from lethe import nodes
from lethe.errors import BadForm
from lethe.nodes import (above, drop_entry, find_value, is_shaped, join_trees, put_entry, split_tree, tree_entries,
                         tree_from_image, tree_image, tree_size)
from tests.plain import (EQUAL_COINS, SIGNS, Case, chain_entries, is_tree_image, near_texts, nested_calls, plain_coin,
                         plain_nodes, plain_pack, plain_tree, plain_tree_image)

THREE = {"a": "x", "c": "yy", "e": ""}
THREE_TREE = ("c", "yy", ("a", "x", None, None), ("e", "", None, None))


@functools.cache
def seed_of_three():
    """Return a seed for which c has the greatest height of a, c and e."""
    return next(seed for seed in range(1000000) if plain_tree(seed, THREE)[0] == "c")


def some_entries(count, seed=1):
    choice = random.Random(seed)
    return {str(key): "v" * choice.randrange(4) for key in choice.sample(range(3 * count + 9), count)}


def built(seed, entries):
    tree = None
    for key in entries:
        tree = put_entry(seed, tree, key, entries[key])
    return tree


class TestAbove(Case):
    def test_greater_height(self):
        keys = ["a", "b", "ab", "", "~", "k" * 40]
        for seed in range(30):
            for key in keys:
                for other in keys:
                    if key != other:
                        expected = plain_coin(seed, 3, key) > plain_coin(seed, 3, other)
                        self.assertIs(above(seed, key, other), expected)

    def test_equal_heights(self):
        for pair in EQUAL_COINS:
            lesser, greater = sorted(pair)
            self.assertIs(above(4, lesser, greater), True)
            self.assertIs(above(4, greater, lesser), False)


class TestTrees(Case):
    def test_constants(self):
        self.assertEqual((nodes.MAX_ENTRY_KEY, nodes.MAX_ENTRY_VALUE, nodes.MAX_ENTRIES), (40, 600, 200))

    def test_example(self):
        seed = seed_of_three()
        for keys in ["ace", "aec", "cae", "cea", "eac", "eca"]:
            self.assertEqual(built(seed, {key: THREE[key] for key in keys}), THREE_TREE)
        self.assertEqual(tree_image(THREE_TREE), "3;31:c2:yy01:a1:x01:e0:")
        self.assertEqual(tree_from_image(seed, "3;31:c2:yy01:a1:x01:e0:"), THREE_TREE)
        self.assertEqual(tree_entries(THREE_TREE), [("a", "x"), ("c", "yy"), ("e", "")])
        self.assertIs(is_shaped(seed, THREE_TREE), True)

    def test_the_empty_tree(self):
        self.assertEqual(tree_size(None), 0)
        self.assertEqual(tree_entries(None), [])
        self.assertEqual(split_tree(None, "a"), (None, None))
        self.assertIsNone(join_trees(1, None, None))
        self.assertEqual(put_entry(1, None, "a", "b"), ("a", "b", None, None))
        self.assertIsNone(drop_entry(1, None, "a"))
        self.assertIsNone(find_value(None, "a"))
        self.assertEqual(tree_image(None), "0;")
        self.assertIsNone(tree_from_image(1, "0;"))
        self.assertIs(is_shaped(1, None), True)

    def test_one_node(self):
        self.assertEqual(tree_image(("k", "v", None, None)), "1;01:k1:v")
        self.assertIsNone(drop_entry(1, ("k", "v", None, None), "k"))

    def test_an_empty_value_is_a_value(self):
        self.assertEqual(find_value(("k", "", None, None), "k"), "")

    def test_every_function_on_many_trees(self):
        choice = random.Random(8)
        for count in [1, 2, 3, 5, 10, 40, 200]:
            for seed in [0, 3, 999999]:
                entries = some_entries(count, seed + count)
                tree = plain_tree(seed, entries)
                self.assertEqual(built(seed, entries), tree)
                self.assertEqual(tree_size(tree), count)
                self.assertEqual(tree_entries(tree), sorted(entries.items()))
                self.assertEqual(tree_image(tree), plain_tree_image(seed, entries))
                self.assertEqual(tree_from_image(seed, tree_image(tree)), tree)
                self.assertIs(is_shaped(seed, tree), True)
                for key in choice.sample(sorted(entries), min(count, 9)) + ["", "0", "55x", "~", "3", "k" * 60]:
                    self.check_key(seed, entries, tree, key)

    def check_key(self, seed, entries, tree, key):
        lower = {other: entries[other] for other in entries if other < key}
        upper = {other: entries[other] for other in entries if other >= key}
        parts = plain_tree(seed, lower), plain_tree(seed, upper)
        self.assertEqual(split_tree(tree, key), parts)
        self.assertEqual(join_trees(seed, *parts), tree)
        self.assertEqual(put_entry(seed, tree, key, "new"), plain_tree(seed, {**entries, key: "new"}))
        rest = {other: entries[other] for other in entries if other != key}
        self.assertEqual(drop_entry(seed, tree, key), plain_tree(seed, rest))
        self.assertEqual(find_value(tree, key), entries.get(key))

    def test_long_history(self):
        choice = random.Random(9)
        for seed in [1, 77]:
            tree = None
            entries = {}
            for _ in range(400):
                key = str(choice.randrange(40))
                if choice.random() < 0.55:
                    entries[key] = str(choice.randrange(9))
                    tree = put_entry(seed, tree, key, entries[key])
                else:
                    entries.pop(key, None)
                    tree = drop_entry(seed, tree, key)
                self.assertEqual(tree, plain_tree(seed, entries))

    def test_equal_heights(self):
        entries = {key: "" for pair in EQUAL_COINS for key in pair}
        for seed in range(10):
            tree = plain_tree(seed, entries)
            self.assertEqual(built(seed, entries), tree)
            self.assertEqual(built(seed, {key: "" for key in reversed(entries)}), tree)
            self.assertIs(is_shaped(seed, tree), True)
            for pair in EQUAL_COINS:
                lesser, greater = sorted(pair)
                self.assertEqual(built(seed, {greater: "", lesser: ""}), (lesser, "", None, (greater, "", None, None)))
                self.assertIs(is_shaped(seed, (greater, "", (lesser, "", None, None), None)), False)
                self.assertEqual(join_trees(seed, (lesser, "", None, None), (greater, "", None, None)),
                                 (lesser, "", None, (greater, "", None, None)))

    def test_no_checks_in_put_entry(self):
        entries = {**some_entries(250), "": "", "k" * 41: "v" * 601}
        self.assertEqual(built(5, entries), plain_tree(5, entries))


class TestIsShaped(Case):
    def test_wrong_order_and_wrong_heights(self):
        seed = seed_of_three()
        a, c, e = [(key, THREE[key], None, None) for key in "ace"]
        self.assertIs(is_shaped(seed, ("c", "yy", e, a)), False)
        self.assertIs(is_shaped(seed, ("c", "yy", e, None)), False)
        self.assertIs(is_shaped(seed, ("c", "yy", None, a)), False)
        self.assertIs(is_shaped(seed, ("a", "x", None, c)), False)
        self.assertIs(is_shaped(seed, ("e", "", c, None)), False)
        self.assertIs(is_shaped(seed, ("c", "yy", a, None)), True)

    def test_equal_keys(self):
        self.assertIs(is_shaped(3, ("a", "", ("a", "", None, None), None)), False)
        self.assertIs(is_shaped(3, ("a", "", None, ("a", "", None, None))), False)

    def test_order_below_the_children(self):
        choice = random.Random(10)
        seen = {True: 0, False: 0}
        names = ["ant", "bee", "cat", "dog", "eel", "fox", "gnu", "hen"]
        for seed in range(3000):
            first, second, third, fourth = sorted(choice.choices(names, k=4))
            keys = [third, first, second, fourth]
            if seed % 2:
                choice.shuffle(keys)
            tree = (keys[0], "", (keys[1], "", None, (keys[2], "", None, None)), (keys[3], "", None, None))
            order = keys[1] < keys[2] < keys[0] < keys[3]
            expected = order and tree == plain_tree(seed, dict.fromkeys(keys, ""))
            self.assertIs(is_shaped(seed, tree), expected)
            seen[expected] += 1
        self.assertGreater(min(seen.values()), 20)

    def test_no_lengths_and_numbers(self):
        entries = {**some_entries(300), "": "", "k" * 100: "v" * 700}
        self.assertIs(is_shaped(5, plain_tree(5, entries)), True)


class TestTreeFromImage(Case):
    def check_text(self, seed, text):
        good = is_tree_image(seed, text)
        if good:
            self.assertEqual(tree_image(tree_from_image(seed, text)), text)
        else:
            self.fails(BadForm, tree_from_image, seed, text)
        return good

    def test_near_texts(self):
        good = 0
        for seed, entries in [(seed_of_three(), THREE), (4, {"a": ""}), (5, some_entries(12)), (6, {})]:
            for text in near_texts(plain_tree_image(seed, entries)):
                good += self.check_text(seed, text)
        self.assertGreater(good, 10)

    def test_every_digit(self):
        seed = seed_of_three()
        image = tree_image(THREE_TREE)
        for at in [2, 10, 17]:
            self.assertIn(image[at], "03")
            for sign in SIGNS:
                if sign != image[at]:
                    self.fails(BadForm, tree_from_image, seed, image[:at] + sign + image[at + 1:])

    def test_numbers(self):
        seed = seed_of_three()
        nodes_part = tree_image(THREE_TREE)[2:]
        for head in ["2;", "4;", "03;", "0;", "-3;", " 3;", ";", "3", "", "3:", "3;;", "13;", "3x;", "0000000003;"]:
            self.fails(BadForm, tree_from_image, seed, head + nodes_part)
        for text in ["", "0", ";", "00;", "1;", "0;;", "0;0", "0;01:a0:", "1", "1;0", "1;01:a", "1;01:a0", "-0;"]:
            self.fails(BadForm, tree_from_image, seed, text)

    def test_nodes_cut_off_or_left_over(self):
        for text in ["1;11:a0:", "1;21:a0:", "1;31:a0:", "2;11:b0:", "2;01:a0:01:b0:", "3;31:b0:01:a0:",
                     "2;31:b0:01:a0:"]:
            for seed in range(20):
                self.fails(BadForm, tree_from_image, seed, text)

    def test_nodes_in_each_other_place(self):
        seed = 11
        entries = some_entries(6)
        good = plain_tree(seed, entries)
        for root in entries:
            left = plain_tree(seed, {key: entries[key] for key in entries if key < root})
            right = plain_tree(seed, {key: entries[key] for key in entries if key > root})
            for tree in [(root, entries[root], left, right), (root, entries[root], right, left)]:
                if tree != good:
                    self.fails(BadForm, tree_from_image, seed, "6;" + plain_nodes(tree))

    def test_another_seed(self):
        image = plain_tree_image(1, some_entries(20))
        self.fails(BadForm, tree_from_image, 2, image)

    def test_lengths(self):
        for key, value, good in [("k" * 40, "v" * 600, True), ("k", "", True), ("", "", False), ("", "v", False),
                                 ("k" * 41, "", False), ("k", "v" * 601, False)]:
            text = "1;0" + plain_pack([key, value])
            if good:
                self.assertEqual(tree_from_image(9, text), (key, value, None, None))
            else:
                self.fails(BadForm, tree_from_image, 9, text)

    def test_two_hundred_entries(self):
        entries = some_entries(201)
        self.fails(BadForm, tree_from_image, 3, plain_tree_image(3, entries))
        del entries[sorted(entries)[100]]
        self.assertEqual(tree_from_image(3, plain_tree_image(3, entries)), plain_tree(3, entries))


class TestDepth(Case):
    """Point 2.8, on trees that are one long path."""

    def check_calls(self, limit, call, *args):
        depth, result = nested_calls(call, *args)
        self.assertLessEqual(depth, limit + 10)
        return result

    def test_a_path(self):
        seed = 5
        entries = chain_entries(seed, 200)
        self.assertEqual(len(entries), 200)
        tree = None
        for key in sorted(entries, reverse=True):
            tree = (key, "", None, tree)
        self.assertIs(self.check_calls(200, is_shaped, seed, tree), True)
        last = max(entries)
        self.assertEqual(self.check_calls(200, tree_size, tree), 200)
        self.assertEqual(len(self.check_calls(200, tree_entries, tree)), 200)
        image = self.check_calls(200, tree_image, tree)
        self.assertEqual(self.check_calls(0, tree_from_image, seed, image), tree)
        self.assertEqual(self.check_calls(200, find_value, tree, last), "")
        lower, upper = self.check_calls(200, split_tree, tree, last)
        self.assertEqual((tree_size(lower), tree_size(upper)), (199, 1))
        self.assertEqual(self.check_calls(200, join_trees, seed, lower, upper), tree)
        self.assertEqual(self.check_calls(200, put_entry, seed, tree, last, ""), tree)
        self.assertEqual(self.check_calls(200, put_entry, seed, lower, last, ""), tree)
        self.assertEqual(self.check_calls(200, drop_entry, seed, tree, last), lower)

    def test_small_trees(self):
        tree = plain_tree(5, some_entries(3))
        for call, args in [(tree_size, ()), (tree_entries, ()), (tree_image, ()), (split_tree, ("2",)),
                           (find_value, ("2",))]:
            self.check_calls(3, call, tree, *args)
        for call, args in [(put_entry, ("2", "")), (drop_entry, ("2",)), (is_shaped, ())]:
            self.check_calls(3, call, 5, tree, *args)

    def test_texts_that_go_far_down(self):
        for text in ["100000;" + "11:a0:" * 100000, "100000;" + "21:a0:" * 100000, "200;" + "11:a0:" * 200,
                     "100001;" + "11:a0:" * 100000 + "01:a0:"]:
            self.check_calls(0, self.fails, BadForm, tree_from_image, 1, text)

    def test_a_deep_tree_that_is_none(self):
        tree = None
        for _ in range(5000):
            tree = ("a", "", tree, None)
        self.assertIs(is_shaped(1, tree), False)


if __name__ == "__main__":
    unittest.main()
