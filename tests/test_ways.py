"""Ways, distances, trails and groups: points 5.34 to 5.38."""

import itertools
import random
import unittest

from lethe.edges import load_edges
from lethe.errors import Missing
from lethe.ways import best_way, distances, groups, trail_ends
from tests.plain import Case
from tests.test_edges import edges_of

EXAMPLE = [("a", 0, "b"), ("b", 1, "d"), ("a", 0, "c"), ("c", 0, "d")]


def random_rows(choice, keys):
    rows = {(choice.choice(keys), choice.randrange(4), choice.choice(keys)) for _ in range(choice.randrange(25))}
    return sorted(rows)


def ways_of_length(rows, kinds, start, length):
    """Return all ways from a start with so many steps."""
    ways = [[start]]
    for _ in range(length):
        pairs = {(source, target) for source, kind, target in rows if kind in kinds}
        ways = [way + [target] for way in ways for source, target in pairs if source == way[-1]]
    return ways


def plain_best(rows, kinds, start, end):
    """Return the least of all ways of the least length, or None; there are at most 5 keys."""
    for length in range(6):
        ways = [way for way in ways_of_length(rows, kinds, start, length) if way[-1] == end]
        if ways:
            return min(ways)
    return None


def plain_groups(rows, kinds):
    """Return the groups, by joining those that an edge connects."""
    found = []
    for source, kind, target in rows:
        if kind in kinds:
            joined = {source, target}
            for group in [group for group in found if group & joined]:
                found.remove(group)
                joined |= group
            found.append(joined)
    return sorted(sorted(group) for group in found)


class TestExamples(Case):
    def test_of_the_interface(self):
        edges = load_edges("1:a1:01:b1:a1:01:c1:b1:11:d1:c1:01:d")
        self.assertEqual(best_way(edges, [0, 1], "a", "d"), ["a", "b", "d"])
        self.assertEqual(best_way(edges, [0], "a", "d"), ["a", "c", "d"])
        self.assertEqual(trail_ends(edges, "a", [0, 0]), ["d"])
        self.assertEqual(groups(edges, [1]), [["b", "d"]])
        self.assertEqual(edges.drop("b"), 2)

    def test_by_hand(self):
        edges = edges_of(EXAMPLE)
        self.assertEqual(distances(edges, [0, 1], "a"), [("a", 0), ("b", 1), ("c", 1), ("d", 2)])
        self.assertEqual(distances(edges, [1], "a"), [("a", 0)])
        self.assertEqual(distances(edges, [0, 1, 2, 3], "d"), [("d", 0)])
        self.assertEqual(trail_ends(edges, "a", [0]), ["b", "c"])
        self.assertEqual(trail_ends(edges, "a", [0, 1]), ["d"])
        self.assertEqual(trail_ends(edges, "a", [1]), [])
        self.assertEqual(groups(edges, [0]), [["a", "b", "c", "d"]])
        self.assertEqual(groups(edges, []), [])


class TestWays(Case):
    def test_a_start_to_itself(self):
        for rows in [[], EXAMPLE, [("a", 0, "a"), ("a", 0, "b"), ("b", 0, "a")]]:
            for key in ["a", "d", "none"]:
                for kinds in [[], [0], [0, 1, 2, 3]]:
                    self.assertEqual(best_way(edges_of(rows), kinds, key, key), [key])
                    self.assertEqual(dict(distances(edges_of(rows), kinds, key))[key], 0)

    def test_no_way(self):
        edges = edges_of(EXAMPLE)
        for kinds, start, end in [([0, 1], "d", "a"), ([], "a", "b"), ([1], "a", "b"), ([0], "a", "none"),
                                  ([0], "none", "a"), ([2, 3], "a", "d"), ([0], "b", "d")]:
            self.fails(Missing, best_way, edges, kinds, start, end)
        self.assertEqual(edges.edges(), sorted(EXAMPLE))

    def test_several_ways_of_one_length(self):
        rows = [("a", 0, "c"), ("a", 1, "b"), ("b", 0, "z"), ("c", 0, "d"), ("z", 0, "e"), ("d", 0, "e"), ("a", 2, "d")]
        edges = edges_of(rows)
        self.assertEqual(best_way(edges, [0, 1], "a", "e"), ["a", "b", "z", "e"])
        self.assertEqual(best_way(edges, [0], "a", "e"), ["a", "c", "d", "e"])
        self.assertEqual(best_way(edges, [0, 1, 2], "a", "e"), ["a", "d", "e"])
        rows = [("a", 0, "b"), ("a", 0, "ba"), ("b", 0, "zz"), ("ba", 0, "0"), ("zz", 0, "e"), ("0", 0, "e")]
        self.assertEqual(best_way(edges_of(rows), [0], "a", "e"), ["a", "b", "zz", "e"])

    def test_the_least_first_key_may_lead_nowhere(self):
        rows = [("m", 0, "a"), ("m", 0, "b"), ("m", 0, "c"), ("c", 0, "z"), ("b", 0, "y"), ("y", 0, "z"), ("a", 0, "m")]
        self.assertEqual(best_way(edges_of(rows), [0], "m", "z"), ["m", "c", "z"])

    def test_against_all_ways(self):
        choice = random.Random(534)
        found = missing = 0
        for _ in range(60):
            keys = choice.sample(["a", "b", "c", "ab", "0", "zz"], 5)
            rows = random_rows(choice, keys)
            edges = edges_of(rows)
            for kinds in [[0], [0, 1], [2, 0, 2], [3, 2, 1, 0], []]:
                start, end = choice.choice(keys), choice.choice(keys)
                expected = plain_best(rows, kinds, start, end)
                if expected is None:
                    missing += 1
                    self.fails(Missing, best_way, edges, kinds, start, end)
                else:
                    found += 1
                    self.assertEqual(best_way(edges, kinds, start, end), expected)
            self.assertEqual(edges.edges(), rows)
        self.assertGreater(min(found, missing), 50)

    def test_a_long_way(self):
        keys = [f"k{k:02d}" for k in range(25)]
        rows = [(keys[k], k % 4, keys[k + 1]) for k in range(24)]
        self.assertEqual(best_way(edges_of(rows), [0, 1, 2, 3], keys[0], keys[24]), keys)
        self.assertEqual(distances(edges_of(rows), [0, 1, 2, 3], keys[0]), [(keys[k], k) for k in range(25)])
        self.assertEqual(trail_ends(edges_of(rows), keys[0], [0, 1, 2, 3] * 6), [keys[24]])
        self.assertEqual(groups(edges_of(rows), [0, 1, 2, 3]), [keys])

    def test_a_returned_list_is_new(self):
        edges = edges_of(EXAMPLE)
        for found in [best_way(edges, [0], "a", "d"), distances(edges, [0], "a"), trail_ends(edges, "a", [0]),
                      groups(edges, [0])]:
            found.clear()
        self.assertEqual(edges.edges(), sorted(EXAMPLE))
        kinds = [1, 0, 1]
        best_way(edges, kinds, "a", "d")
        groups(edges, kinds)
        trail_ends(edges, "a", kinds)
        self.assertEqual(kinds, [1, 0, 1])


class TestSearches(Case):
    def test_distances_against_best_ways(self):
        choice = random.Random(536)
        for _ in range(60):
            keys = choice.sample(["a", "b", "c", "ab", "0", "zz"], 5)
            rows = random_rows(choice, keys)
            for kinds in [[0], [1, 0], [3, 2, 1, 0], [2, 2], []]:
                start = choice.choice(keys)
                expected = []
                for key in sorted(keys):
                    way = plain_best(rows, kinds, start, key)
                    if way is not None:
                        expected.append((key, len(way) - 1))
                self.assertEqual(distances(edges_of(rows), kinds, start), expected)
            self.assertEqual(distances(edges_of(rows), [0, 1, 2, 3], "none"), [("none", 0)])

    def test_trails_against_all_rows_of_edges(self):
        choice = random.Random(537)
        for _ in range(60):
            keys = choice.sample(["a", "b", "c", "ab", "0", "zz"], 4)
            rows = random_rows(choice, keys)
            for length in range(4):
                trail = [choice.randrange(4) for _ in range(length)]
                start = choice.choice(keys)
                ends = set()
                for way in itertools.product(keys, repeat=length):
                    way = (start,) + way
                    if all((way[k], trail[k], way[k + 1]) in rows for k in range(length)):
                        ends.add(way[-1])
                self.assertEqual(trail_ends(edges_of(rows), start, trail), sorted(ends))

    def test_the_empty_trail(self):
        for key in ["a", "none"]:
            self.assertEqual(trail_ends(edges_of(EXAMPLE), key, []), [key])
        self.assertEqual(trail_ends(edges_of([("a", 0, "a")]), "a", [0, 0, 0]), ["a"])
        self.assertEqual(trail_ends(edges_of(EXAMPLE), "none", [0]), [])

    def test_groups_against_joined_sets(self):
        choice = random.Random(538)
        for _ in range(100):
            keys = ["a", "b", "c", "d", "ab", "0", "zz", "y1", "m", "n"]
            rows = random_rows(choice, keys)[:choice.randrange(12)]
            for kinds in [[0], [1, 0], [3, 2, 1, 0], [2, 2], []]:
                self.assertEqual(groups(edges_of(rows), kinds), plain_groups(rows, kinds))

    def test_groups_go_against_the_edges(self):
        rows = [("b", 0, "c"), ("a", 0, "c"), ("e", 1, "e"), ("f", 0, "e"), ("z", 2, "a")]
        self.assertEqual(groups(edges_of(rows), [0]), [["a", "b", "c"], ["e", "f"]])
        self.assertEqual(groups(edges_of(rows), [1]), [["e"]])
        self.assertEqual(groups(edges_of(rows), [2, 1]), [["a", "z"], ["e"]])


if __name__ == "__main__":
    unittest.main()
