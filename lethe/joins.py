"""Several trees and maps at once (points 2.7 and 2.8)."""

from lethe.nodes import drop_entry, put_entry, tree_entries


def union_tree(seed, first, second):
    """Return the tree with the entries of both trees; the first one's values go before."""
    tree = second
    for key, value in tree_entries(first):
        tree = put_entry(seed, tree, key, value)
    return tree


def minus_tree(seed, first, second):
    """Return the tree with those entries of the first whose keys the second does not have."""
    tree = first
    for key, _ in tree_entries(second):
        tree = drop_entry(seed, tree, key)
    return tree


def same_entries(first, second):
    """Tell whether both trees have the same keys with the same values."""
    return tree_entries(first) == tree_entries(second)


def changes(old, new):
    """Return the changes from the old map to the new one, in ascending order of keys."""
    before = dict(old.entries())
    after = dict(new.entries())
    rows = []
    for key in sorted(set(list(before) + list(after))):
        if key not in after:
            rows.append(("drop", key))
        elif key not in before or before[key] != after[key]:
            rows.append(("put", key, after[key]))
    return rows


def make_changes(order, rows):
    """Make the changes in the map, one after another."""
    for row in rows:
        if row[0] == "drop":
            order.drop(row[1])
        else:
            order.put(row[1], row[2])
