"""Several trees and maps at once: points 2.7 and 2.8."""

import random
import unittest

from lethe.errors import Full, Missing, NotAllowed
from lethe.joins import changes, make_changes, minus_tree, same_entries, union_tree
from lethe.nodes import tree_image
from lethe.order import Order
from tests.plain import EQUAL_COINS, Case, chain_entries, nested_calls, plain_tree, plain_tree_image


def order_with(seed, entries):
    order = Order(seed)
    for key in entries:
        order.put(key, entries[key])
    return order


def some_entries(choice, count, many):
    return {str(key): choice.choice(["", "x", "yy"]) for key in choice.sample(range(many), count)}


class TestTrees(Case):
    def check_join(self, seed, first, second):
        one, two = plain_tree(seed, first), plain_tree(seed, second)
        self.assertEqual(union_tree(seed, one, two), plain_tree(seed, {**second, **first}))
        left = {key: first[key] for key in first if key not in second}
        self.assertEqual(minus_tree(seed, one, two), plain_tree(seed, left))
        self.assertIs(same_entries(one, two), first == second)
        self.assertIs(same_entries(one, one), True)

    def test_empty_trees(self):
        self.check_join(1, {}, {})
        self.check_join(1, {"a": "1"}, {})
        self.check_join(1, {}, {"a": "1"})

    def test_the_value_of_the_first_is_taken(self):
        self.check_join(1, {"a": "1"}, {"a": "2"})
        self.check_join(1, {"a": ""}, {"a": "2"})
        tree = union_tree(1, ("a", "1", None, None), ("a", "2", None, None))
        self.assertEqual(tree, ("a", "1", None, None))

    def test_many_trees(self):
        choice = random.Random(13)
        for many in [4, 10, 60]:
            for seed in range(40):
                first = some_entries(choice, choice.randrange(many + 1), many)
                second = some_entries(choice, choice.randrange(many + 1), many)
                self.check_join(seed, first, second)

    def test_equal_heights(self):
        for seed in range(10):
            for pair in EQUAL_COINS:
                self.check_join(seed, {pair[0]: "1"}, {pair[1]: "2"})
                self.check_join(seed, {pair[0]: "1", pair[1]: "3"}, {pair[1]: "2"})

    def test_four_hundred_entries(self):
        first = {f"a{k}": "1" for k in range(200)}
        second = {f"b{k}": "2" for k in range(200)}
        tree = union_tree(3, plain_tree(3, first), plain_tree(3, second))
        self.assertEqual(tree, plain_tree(3, {**first, **second}))
        self.assertEqual(tree_image(tree), plain_tree_image(3, {**first, **second}))
        self.assertEqual(minus_tree(3, tree, plain_tree(3, second)), plain_tree(3, first))

    def test_same_entries(self):
        base = {"a": "1", "b": "2"}
        for other in [{"a": "1"}, {"a": "1", "b": "3"}, {"a": "1", "c": "2"}, {"a": "1", "b": "2", "c": ""}, {}]:
            self.assertIs(same_entries(plain_tree(2, base), plain_tree(2, other)), False)
            self.assertIs(same_entries(plain_tree(2, other), plain_tree(2, base)), False)

    def test_depth(self):
        entries = chain_entries(5, 200)
        first = {key: "" for key in sorted(entries)[::2]}
        second = {key: "" for key in sorted(entries)[1::2]}
        one, two = plain_tree(5, first), plain_tree(5, second)
        depth, tree = nested_calls(union_tree, 5, one, two)
        self.assertEqual(tree, plain_tree(5, entries))
        self.assertLessEqual(depth, 210)
        self.assertLessEqual(nested_calls(minus_tree, 5, tree, two)[0], 310)
        self.assertLessEqual(nested_calls(same_entries, tree, one)[0], 310)
        tiny = ("a", "", None, None)
        for call, args in [(union_tree, (5, tiny, tiny)), (minus_tree, (5, tiny, tiny)), (same_entries, (tiny, tiny))]:
            self.assertLessEqual(nested_calls(call, *args)[0], 12)


class TestChanges(Case):
    def plain_changes(self, old, new):
        rows = [("drop", key) for key in old if key not in new]
        rows += [("put", key, new[key]) for key in new if old.get(key) != new[key]]
        return sorted(rows, key=lambda row: row[1])

    def test_each_kind(self):
        old = order_with(1, {"a": "1", "b": "2", "c": "3", "d": ""})
        new = order_with(1, {"b": "2", "c": "", "d": "", "e": "5", "a0": ""})
        expected = [("drop", "a"), ("put", "a0", ""), ("put", "c", ""), ("put", "e", "5")]
        self.assertEqual(changes(old, new), expected)

    def test_no_changes(self):
        self.assertEqual(changes(Order(1), Order(1)), [])
        order = order_with(1, {"a": "1", "b": ""})
        self.assertEqual(changes(order, order), [])
        self.assertEqual(changes(order, order_with(1, {"b": "", "a": "1"})), [])

    def test_an_empty_value_is_a_value(self):
        self.assertEqual(changes(Order(1), order_with(1, {"a": ""})), [("put", "a", "")])
        self.assertEqual(changes(order_with(1, {"a": ""}), Order(1)), [("drop", "a")])

    def test_the_changes_give_the_new_map(self):
        choice = random.Random(14)
        for seed in range(150):
            many = choice.choice([3, 10, 40])
            old = some_entries(choice, choice.randrange(many + 1), many)
            new = some_entries(choice, choice.randrange(many + 1), many)
            before, after = order_with(seed, old), order_with(seed, new)
            rows = changes(before, after)
            self.assertEqual(rows, self.plain_changes(old, new))
            self.assertEqual((before.entries(), after.entries()), (sorted(old.items()), sorted(new.items())))
            given = list(rows)
            self.assertIsNone(make_changes(before, rows))
            self.assertEqual(rows, given)
            self.assertEqual(before.entries(), sorted(new.items()))
            self.assertEqual(before.image(), plain_tree_image(seed, new))

    def test_one_after_another(self):
        order = order_with(1, {"a": "1"})
        make_changes(order, [("put", "b", "x"), ("drop", "a"), ("put", "b", "y"), ("put", "a", ""), ("drop", "b")])
        self.assertEqual(order.entries(), [("a", "")])
        make_changes(order, [])
        self.assertEqual(order.entries(), [("a", "")])

    def test_errors_leave_the_changes_before(self):
        full = {f"k{k}": "" for k in range(199)}
        for error, wrong in [(Missing, ("drop", "z")), (Missing, ("drop", "")), (NotAllowed, ("put", "", "")),
                             (NotAllowed, ("put", "k" * 41, "")), (NotAllowed, ("put", "k", "v" * 601)),
                             (Full, ("put", "z", ""))]:
            order = order_with(2, full)
            rows = [("put", "new", "1"), ("put", "k0", "2"), wrong, ("drop", "k1"), ("put", "k2", "3")]
            self.fails(error, make_changes, order, rows)
            self.assertEqual(order.entries(), sorted({**full, "new": "1", "k0": "2"}.items()))
            self.assertEqual(order.image(), plain_tree_image(2, {**full, "new": "1", "k0": "2"}))


if __name__ == "__main__":
    unittest.main()
