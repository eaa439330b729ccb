"""Ordered maps: points 2.1, 2.4 to 2.6 and 2.8."""

import random
import unittest

from lethe.errors import BadForm, Full, Missing, NotAllowed
from lethe.order import Order, load_order
from tests.plain import (EQUAL_COINS, SIGNS, Case, chain_entries, is_tree_image, near_texts, nested_calls,
                         plain_tree, plain_tree_image)


def order_with(seed, entries):
    order = Order(seed)
    for key in entries:
        order.put(key, entries[key])
    return order


def some_entries(count, seed=1):
    choice = random.Random(seed)
    return {str(key): "v" * choice.randrange(4) for key in choice.sample(range(3 * count + 9), count)}


class OrderCase(Case):
    def check_is(self, order, seed, entries):
        rows = sorted(entries.items())
        self.assertEqual(order.entries(), rows)
        self.assertEqual(order.size(), len(rows))
        self.assertEqual(order.tree(), plain_tree(seed, entries))
        self.assertEqual(order.image(), plain_tree_image(seed, entries))


class TestOrder(OrderCase):
    def test_examples(self):
        self.assertEqual(Order(5).image(), "0;")
        self.assertEqual(load_order(5, "1;01:a0:").entries(), [("a", "")])
        self.fails(BadForm, load_order, 5, "1;11:a0:")

    def test_example_of_rank_and_span(self):
        order = order_with(3, {"a": "x", "c": "yy", "e": ""})
        self.assertEqual(order.rank("d"), 2)
        self.assertEqual(order.span("b", "e"), [("c", "yy")])

    def test_empty(self):
        order = Order(1)
        self.check_is(order, 1, {})
        self.assertIs(order.has("a"), False)
        self.assertIs(order.has(""), False)
        self.assertEqual(order.rank("~"), 0)
        self.assertEqual(order.span("", "~"), [])
        self.assertIsNone(order.tree())
        self.fails(Missing, order.entry_at, 0)

    def test_long_history_against_a_dict(self):
        choice = random.Random(11)
        for seed in [0, 7, 999999]:
            order = Order(seed)
            entries = {}
            for step in range(400):
                key = str(choice.randrange(40))
                if choice.random() < 0.6:
                    entries[key] = "v" * choice.randrange(4)
                    order.put(key, entries[key])
                elif key in entries:
                    del entries[key]
                    order.drop(key)
                else:
                    self.fails(Missing, order.drop, key)
                    self.fails(Missing, order.value_of, key)
                self.assertIs(order.has(key), key in entries)
                if key in entries:
                    self.assertEqual(order.value_of(key), entries[key])
                if step % 5 == 0:
                    self.check_is(order, seed, entries)

    def test_orders_of_changes_do_not_matter(self):
        choice = random.Random(12)
        entries = some_entries(30)
        for _ in range(20):
            keys = list(entries) + [f"gone{k}" for k in range(20)]
            choice.shuffle(keys)
            order = order_with(8, dict.fromkeys(keys, "other"))
            choice.shuffle(keys)
            for key in keys:
                if key in entries:
                    order.put(key, entries[key])
                else:
                    order.drop(key)
            self.check_is(order, 8, entries)

    def test_equal_heights(self):
        entries = {key: "" for pair in EQUAL_COINS for key in pair}
        for seed in range(10):
            self.check_is(order_with(seed, entries), seed, entries)
            self.check_is(order_with(seed, {key: "" for key in reversed(entries)}), seed, entries)

    def test_rank_entry_at_and_span(self):
        for count in [0, 1, 2, 30]:
            entries = some_entries(count)
            order = order_with(6, entries)
            rows = sorted(entries.items())
            texts = ["", "0", "1", "12", "120", "1 ", "5", "~", "k" * 70] + [key for key, _ in rows[:4]]
            for low in texts:
                self.assertEqual(order.rank(low), len([key for key in entries if key < low]))
                for high in texts:
                    expected = [(key, value) for key, value in rows if low <= key < high]
                    self.assertEqual(order.span(low, high), expected)
            for i in range(count):
                self.assertEqual(order.entry_at(i), rows[i])
                self.assertEqual(order.rank(rows[i][0]), i)
            for i in [-1, -count, -count - 1, count, count + 1, 1000]:
                if i not in range(count):
                    self.fails(Missing, order.entry_at, i)

    def test_lengths(self):
        order = order_with(1, {"k": "", "k" * 40: "v" * 600})
        image = order.image()
        for key, value in [("", ""), ("k" * 41, ""), ("j", "v" * 601), ("", "v" * 601), ("k", "v" * 601)]:
            self.fails(NotAllowed, order.put, key, value)
        self.assertEqual(order.image(), image)

    def test_full(self):
        entries = some_entries(200)
        order = order_with(2, entries)
        image = order.image()
        self.fails(Full, order.put, "one more", "")
        self.fails(NotAllowed, order.put, "", "")
        self.fails(NotAllowed, order.put, "one more", "v" * 601)
        self.assertEqual(order.image(), image)
        key = sorted(entries)[70]
        order.put(key, "new")
        self.assertEqual((order.value_of(key), order.size()), ("new", 200))
        order.drop(key)
        order.put("one more", "")
        self.assertEqual(order.size(), 200)
        self.fails(Full, order.put, key, "")

    def test_missing(self):
        order = order_with(1, {"a": ""})
        for key in ["", "b", "A", "a ", "k" * 50]:
            self.assertIs(order.has(key), False)
            self.fails(Missing, order.drop, key)
            self.fails(Missing, order.value_of, key)
        self.check_is(order, 1, {"a": ""})
        self.assertIs(order.has("a"), True)
        self.assertEqual(order.value_of("a"), "")

    def test_returned_lists_are_new(self):
        order = order_with(1, {"a": "", "b": "1"})
        order.entries().clear()
        order.span("", "~").clear()
        self.check_is(order, 1, {"a": "", "b": "1"})


class TestCut(OrderCase):
    def test_every_place(self):
        entries = some_entries(20)
        for key in sorted(entries) + ["", "~", "0", "11x"]:
            order = order_with(4, entries)
            rest = order.cut(key)
            self.assertIsInstance(rest, Order)
            self.check_is(order, 4, {other: entries[other] for other in entries if other < key})
            self.check_is(rest, 4, {other: entries[other] for other in entries if other >= key})

    def test_an_empty_map(self):
        order = Order(4)
        self.check_is(order.cut("a"), 4, {})
        self.check_is(order, 4, {})

    def test_the_two_maps_are_independent(self):
        order = order_with(4, {"a": "1", "b": "2", "c": "3"})
        rest = order.cut("b")
        order.put("z", "9")
        rest.drop("c")
        rest.put("a", "x")
        self.check_is(order, 4, {"a": "1", "z": "9"})
        self.check_is(rest, 4, {"a": "x", "b": "2"})


class TestTakeAll(OrderCase):
    def test_every_place(self):
        entries = some_entries(20)
        for key in sorted(entries) + ["", "~"]:
            order = order_with(4, entries)
            rest = order.cut(key)
            upper = {other: entries[other] for other in entries if other >= key}
            self.assertIsNone(order.take_all(rest))
            self.check_is(order, 4, entries)
            self.check_is(rest, 4, upper)

    def test_the_two_maps_are_independent(self):
        order = order_with(4, {"a": "1"})
        other = order_with(4, {"b": "2", "c": "3"})
        order.take_all(other)
        order.drop("b")
        other.put("c", "x")
        self.check_is(order, 4, {"a": "1", "c": "3"})
        self.check_is(other, 4, {"b": "2", "c": "x"})

    def check_refused(self, error, order, other):
        before = order.image(), other.image()
        self.fails(error, order.take_all, other)
        self.assertEqual((order.image(), other.image()), before)

    def test_this_map(self):
        for entries in [{}, {"a": ""}]:
            order = order_with(4, entries)
            self.check_refused(NotAllowed, order, order)

    def test_another_seed(self):
        for mine in [{}, {"a": ""}]:
            for other in [{}, {"b": ""}]:
                self.check_refused(NotAllowed, order_with(4, mine), order_with(5, other))

    def test_keys_that_are_not_greater(self):
        for mine, theirs in [("b", "b"), ("b", "a"), ("ac", "bd"), ("bd", "ac"), ("ab", "b"), ("az", "mn")]:
            self.check_refused(NotAllowed, order_with(4, dict.fromkeys(mine, "")),
                               order_with(4, dict.fromkeys(theirs, "")))
        self.check_refused(NotAllowed, order_with(4, {"ab": ""}), order_with(4, {"a": ""}))

    def test_a_prefix_comes_before(self):
        order = order_with(4, {"a": ""})
        order.take_all(order_with(4, {"a ": ""}))
        self.check_is(order, 4, {"a": "", "a ": ""})

    def test_empty_maps(self):
        order = Order(4)
        order.take_all(Order(4))
        self.check_is(order, 4, {})
        order.take_all(order_with(4, {"a": "1"}))
        order.take_all(Order(4))
        self.check_is(order, 4, {"a": "1"})

    def test_full(self):
        lower = {f"a{k}": "" for k in range(120)}
        upper = {f"b{k}": "" for k in range(80)}
        order = order_with(4, lower)
        order.take_all(order_with(4, upper))
        self.check_is(order, 4, {**lower, **upper})
        upper["c"] = ""
        self.check_refused(Full, order_with(4, lower), order_with(4, upper))
        self.check_refused(NotAllowed, order_with(4, upper), order_with(4, lower))
        self.check_refused(NotAllowed, order_with(4, lower), order_with(5, upper))
        self.check_refused(Full, order, order_with(4, {"z": ""}))
        self.check_refused(NotAllowed, order, order)


class TestLoadOrder(OrderCase):
    def test_what_was_written_is_read(self):
        for count in [0, 1, 2, 30, 200]:
            entries = some_entries(count)
            self.check_is(load_order(7, plain_tree_image(7, entries)), 7, entries)

    def test_a_loaded_map_goes_on(self):
        order = load_order(7, plain_tree_image(7, {"a": "1", "b": "2"}))
        order.put("c", "3")
        order.drop("a")
        self.check_is(order, 7, {"b": "2", "c": "3"})
        order.take_all(order_with(7, {"d": ""}))
        self.fails(NotAllowed, order.take_all, order_with(8, {"x": ""}))

    def test_near_texts(self):
        for seed, entries in [(4, {"ab": "x"}), (5, some_entries(8)), (6, {})]:
            for text in near_texts(plain_tree_image(seed, entries)):
                if is_tree_image(seed, text):
                    self.assertEqual(load_order(seed, text).image(), text)
                else:
                    self.fails(BadForm, load_order, seed, text)

    def test_limits(self):
        self.fails(BadForm, load_order, 3, plain_tree_image(3, some_entries(201)))
        for key, value in [("", ""), ("k" * 41, ""), ("k", "v" * 601)]:
            self.fails(BadForm, load_order, 3, plain_tree_image(3, {key: value}))
        entries = {SIGNS[:40]: SIGNS, "k" * 40: "v" * 600}
        self.check_is(load_order(3, plain_tree_image(3, entries)), 3, entries)

    def test_another_seed(self):
        self.fails(BadForm, load_order, 4, plain_tree_image(3, some_entries(20)))


class TestDepth(Case):
    """Point 2.8, on a map whose tree is one long path."""

    def test_a_path(self):
        entries = chain_entries(5, 200)
        image = plain_tree_image(5, entries)
        depth, order = nested_calls(load_order, 5, image)
        self.assertLessEqual(depth, 10)
        last = max(entries)
        for call, args in [(order.has, (last,)), (order.size, ()), (order.entries, ()), (order.rank, (last,)),
                           (order.entry_at, (199,)), (order.span, ("", "~")), (order.image, ()), (order.tree, ()),
                           (order.value_of, (last,)), (order.put, (last, "x")), (order.drop, (last,))]:
            self.assertLessEqual(nested_calls(call, *args)[0], 210)
        depth, rest = nested_calls(order.cut, "m")
        self.assertLessEqual(depth, 210)
        self.assertLessEqual(nested_calls(order.take_all, rest)[0], 210)
        del entries[last]
        self.assertEqual(order.image(), plain_tree_image(5, entries))


if __name__ == "__main__":
    unittest.main()
