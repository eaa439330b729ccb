"""Ordered maps (points 2.1, 2.4 to 2.6 and 2.8)."""

from lethe.errors import Full, Missing, NotAllowed
from lethe.nodes import (MAX_ENTRIES, drop_entry, find_value, is_entry, join_trees, put_entry, split_tree,
                         tree_entries, tree_from_image, tree_image, tree_size)


class Order:
    """A map whose tree and image depend only on its seed and its entries."""

    def __init__(self, seed):
        self._seed = seed
        self._tree = None

    def put(self, key, value):
        """Give the key this value."""
        if not is_entry(key, value):
            raise NotAllowed("a key or a value has a length that is not allowed")
        if not self.has(key) and self.size() >= MAX_ENTRIES:
            raise Full("a map has at most 200 entries")
        self._tree = put_entry(self._seed, self._tree, key, value)

    def drop(self, key):
        """Remove the entry of the key."""
        if not self.has(key):
            raise Missing("there is no such key")
        self._tree = drop_entry(self._seed, self._tree, key)

    def has(self, key):
        """Tell whether the key is there."""
        return find_value(self._tree, key) is not None

    def value_of(self, key):
        """Return the value of the key."""
        value = find_value(self._tree, key)
        if value is None:
            raise Missing("there is no such key")
        return value

    def size(self):
        """Return the number of entries."""
        return tree_size(self._tree)

    def entries(self):
        """Return the entries in ascending order of keys."""
        return tree_entries(self._tree)

    def rank(self, text):
        """Return the number of keys that are less than the text."""
        lower, _ = split_tree(self._tree, text)
        return tree_size(lower)

    def entry_at(self, i):
        """Return the entry whose key has the rank i."""
        entries = self.entries()
        if i < 0 or i >= len(entries):
            raise Missing("there is no entry at this index")
        return entries[i]

    def span(self, low, high):
        """Return the entries whose keys are at least low and less than high."""
        _, upper = split_tree(self._tree, low)
        inside, _ = split_tree(upper, high)
        return tree_entries(inside)

    def image(self):
        """Return the image (point 2.4)."""
        return tree_image(self._tree)

    def tree(self):
        """Return the tree (point 2.3)."""
        return self._tree

    def cut(self, key):
        """Move the entries whose keys are at least this key into a new map."""
        lower, upper = split_tree(self._tree, key)
        self._tree = lower
        return order_of(self._seed, upper)

    def take_all(self, other):
        """Add all entries of a map whose keys are greater than those of this one."""
        if other is self or other._seed != self._seed or not self._is_below(other):
            raise NotAllowed("these maps cannot be joined")
        if self.size() + other.size() > MAX_ENTRIES:
            raise Full("a map has at most 200 entries")
        self._tree = join_trees(self._seed, self._tree, other._tree)

    def _is_below(self, other):
        """Tell whether each key of this map is less than each key of the other one."""
        mine = self.entries()
        theirs = other.entries()
        return not mine or not theirs or mine[-1][0] < theirs[0][0]


def order_of(seed, tree):
    """Return the map with a valid tree."""
    order = Order(seed)
    order._tree = tree
    return order


def load_order(seed, image):
    """Return the map of the seed whose image the text is."""
    return order_of(seed, tree_from_image(seed, image))
