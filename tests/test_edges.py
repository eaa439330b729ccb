"""Edges: points 5.30 to 5.33."""

import random
import unittest

from lethe import edges as module
from lethe.edges import Edges, load_edges
from lethe.errors import BadForm, Full, Missing, NotAllowed, Twice
from tests.plain import Case, near_texts, plain_pack, plain_unpack

NO_KEYS = ["", "abcde", "A", "a b", "a.", ".", "-", "1:a"]
SOME = [("a", 0, "b"), ("b", 1, "d"), ("a", 0, "c"), ("c", 0, "d"), ("a", 3, "a"), ("abcd", 2, "0"), ("a", 0, "ab")]
ROUND = [(str(k // 10) + str(k % 10), k % 4, str((k + 1) % 24)) for k in range(24)]


def edges_of(rows):
    edges = Edges()
    for row in rows:
        edges.link(*row)
    return edges


def plain_image(rows):
    parts = []
    for source, kind, target in sorted(rows):
        parts += [source, str(kind), target]
    return plain_pack(parts)


def shown_edges(image):
    """Return the edges with this image, or None."""
    parts = plain_unpack(image)
    if parts is None or len(parts) % 3 or len(parts) > 72:
        return None
    rows = [tuple(parts[k:k + 3]) for k in range(0, len(parts), 3)]
    signs = set("abcdefghijklmnopqrstuvwxyz0123456789")
    for source, kind, target in rows:
        named = all(1 <= len(key) <= 4 and not set(key) - signs for key in (source, target))
        if kind not in ("0", "1", "2", "3") or not named:
            return None
    if any(rows[k] >= rows[k + 1] for k in range(len(rows) - 1)):
        return None
    return [(source, int(kind), target) for source, kind, target in rows]


class EdgesCase(Case):
    def check_is(self, edges, rows):
        self.assertEqual(edges.edges(), sorted(rows))
        self.assertEqual(edges.size(), len(rows))
        self.assertEqual(edges.image(), plain_image(rows))
        keys = sorted({row[0] for row in rows} | {row[2] for row in rows})
        self.assertEqual(edges.ends(), keys)
        for key in keys + NO_KEYS + ["none"]:
            self.assertEqual(edges.out_of(key), [row[1:] for row in sorted(rows) if row[0] == key])
            self.assertEqual(edges.into(key), [row[:2] for row in sorted(rows) if row[2] == key])
            for kind in range(-1, 5):
                for other in keys[:3] + ["none", "A"]:
                    self.assertIs(edges.has(key, kind, other), (key, kind, other) in rows)


class TestEdges(EdgesCase):
    def test_constant(self):
        self.assertEqual(module.MAX_EDGES, 24)

    def test_example(self):
        edges = Edges()
        edges.link("b", 1, "d")
        edges.link("a", 0, "b")
        self.assertEqual(edges.image(), "1:a1:01:b1:b1:11:d")

    def test_empty(self):
        edges = Edges()
        self.check_is(edges, [])
        self.assertEqual(edges.image(), "")
        self.assertEqual(edges.drop("a"), 0)

    def test_link_and_unlink(self):
        edges = Edges()
        for count, row in enumerate(SOME):
            self.assertIsNone(edges.link(*row))
            self.check_is(edges, SOME[:count + 1])
        for count, row in enumerate(SOME):
            self.assertIsNone(edges.unlink(*row))
            self.check_is(edges, SOME[count + 1:])

    def test_order(self):
        rows = [("a", 0, "b"), ("a", 0, "ba"), ("a", 0, "c"), ("a", 1, "a"), ("a", 3, "a"), ("ab", 0, "a"),
                ("b", 0, "0")]
        edges = edges_of(rows[::-1])
        self.assertEqual(edges.edges(), rows)
        self.assertEqual(edges.out_of("a"), [(0, "b"), (0, "ba"), (0, "c"), (1, "a"), (3, "a")])
        self.assertEqual(edges.into("a"), [("a", 1), ("a", 3), ("ab", 0)])

    def test_long_history(self):
        choice = random.Random(530)
        for keys in [["a", "b", "ab"], ["a", "b", "c", "d", "abcd", "0", "00"]]:
            edges, rows = Edges(), []
            for step in range(500):
                row = (choice.choice(keys), choice.randrange(4), choice.choice(keys))
                turn = choice.random()
                if turn < 0.02:
                    key = choice.choice(keys)
                    removed = [row for row in rows if key in (row[0], row[2])]
                    self.assertEqual(edges.drop(key), len(removed))
                    rows = [row for row in rows if row not in removed]
                elif turn < 0.3 and row in rows:
                    rows.remove(row)
                    self.assertIsNone(edges.unlink(*row))
                elif turn < 0.3:
                    self.fails(Missing, edges.unlink, *row)
                elif row in rows:
                    self.fails(Twice, edges.link, *row)
                elif len(rows) == 24:
                    self.fails(Full, edges.link, *row)
                else:
                    rows.append(row)
                    self.assertIsNone(edges.link(*row))
                if step % 5 == 0:
                    self.check_is(edges, rows)
            self.assertEqual(edges.image(), edges_of(sorted(rows, reverse=True)).image())

    def test_twenty_four_edges_and_one_more(self):
        edges = edges_of(ROUND)
        self.check_is(edges, ROUND)
        self.fails(Full, edges.link, "new", 0, "a")
        for row in ROUND:
            self.fails(Twice, edges.link, *row)
            self.fails(Full, edges.link, row[0], (row[1] + 1) % 4, row[2])
        self.fails(NotAllowed, edges.link, "new", 4, "a")
        self.check_is(edges, ROUND)
        edges.unlink(*ROUND[5])
        edges.link("new", 0, "a")
        self.fails(Full, edges.link, *ROUND[5])

    def test_not_allowed(self):
        for rows in [[], SOME, ROUND]:
            edges = edges_of(rows)
            for call in [edges.link, edges.unlink]:
                for key in NO_KEYS:
                    self.fails(NotAllowed, call, key, 0, "a")
                    self.fails(NotAllowed, call, "a", 0, key)
                for kind in [-1, 4, 10, 10 ** 9]:
                    self.fails(NotAllowed, call, "a", kind, "b")
            for key in NO_KEYS:
                self.fails(NotAllowed, edges.drop, key)
            self.check_is(edges, rows)

    def test_keys_of_one_and_four_characters(self):
        rows = [("a", 0, "abcd"), ("abcd", 3, "a"), ("0000", 1, "0000")]
        self.check_is(edges_of(rows), rows)
        self.fails(NotAllowed, edges_of(rows).link, "a", 0, "abcde")

    def test_missing(self):
        edges = edges_of(SOME)
        for row in [("b", 0, "a"), ("a", 1, "b"), ("a", 0, "a"), ("none", 0, "b")]:
            self.fails(Missing, edges.unlink, *row)
        self.check_is(edges, SOME)

    def test_drop(self):
        for key, left in [("a", SOME[1:2] + SOME[3:4] + SOME[5:6]), ("d", [SOME[0], SOME[2]] + SOME[4:]),
                          ("none", SOME), ("ab", SOME[:6]), ("0", SOME[:5] + SOME[6:])]:
            edges = edges_of(SOME)
            self.assertEqual(edges.drop(key), len(SOME) - len(left))
            self.check_is(edges, left)
            self.assertEqual(edges.drop(key), 0)
        edges = edges_of([("a", 0, "a"), ("a", 1, "a")])
        self.assertEqual(edges.drop("a"), 2)
        self.check_is(edges, [])

    def test_returned_lists_are_new(self):
        edges = edges_of(SOME)
        for found in [edges.edges(), edges.out_of("a"), edges.into("d"), edges.ends()]:
            self.assertNotEqual(found, [])
            found.clear()
        self.check_is(edges, SOME)


class TestLoadEdges(EdgesCase):
    def check_text(self, image):
        rows = shown_edges(image)
        if rows is None:
            self.fails(BadForm, load_edges, image)
        else:
            self.check_is(load_edges(image), rows)
        return rows is not None

    def test_example(self):
        edges = load_edges("1:a1:01:b1:a1:01:c1:b1:11:d1:c1:01:d")
        self.check_is(edges, SOME[:4])

    def test_what_was_written_is_read(self):
        for rows in [[], SOME, ROUND, [("a", 0, "a")], [("a", 3, "abcd")]]:
            self.assertTrue(self.check_text(plain_image(rows)))

    def test_loaded_edges_go_on(self):
        edges = load_edges(plain_image(SOME))
        edges.unlink("a", 0, "b")
        edges.link("a", 1, "b")
        self.check_is(edges, [("a", 1, "b")] + SOME[1:])

    def test_near_texts(self):
        good = 0
        for rows in [[], SOME[:1], SOME[:3], [("abcd", 2, "0")]]:
            for text in near_texts(plain_image(rows), "a0134:;"):
                good += self.check_text(text)
        self.assertGreater(good, 20)

    def test_wrong_parts(self):
        for part in NO_KEYS:
            self.assertFalse(self.check_text(plain_pack([part, "0", "a"])))
            self.assertFalse(self.check_text(plain_pack(["a", "0", part])))
        for part in ["", "4", "00", "01", "10", "-1", "a", " 1", "+1", "1234567890"]:
            self.assertFalse(self.check_text(plain_pack(["a", part, "a"])))
        for parts in [["a"], ["a", "0"], ["a", "0", "b", "b"], ["a", "0", "b", "b", "1"], [""], ["", "", ""]]:
            self.assertFalse(self.check_text(plain_pack(parts)))

    def test_order_and_doubles(self):
        a, b, c = ["a", "0", "b"], ["a", "1", "a"], ["b", "0", "a"]
        self.assertTrue(self.check_text(plain_pack(a + b + c)))
        for parts in [b + a, c + b, a + c + b, a + a, a + b + b, c + a + b, a + b + a]:
            self.assertFalse(self.check_text(plain_pack(parts)))

    def test_more_than_twenty_four_edges(self):
        self.assertTrue(self.check_text(plain_image(ROUND)))
        self.assertFalse(self.check_text(plain_image(ROUND + [("zz", 0, "a")])))

    def test_no_packed_text(self):
        for text in ["a", ":", "1", "1:", "01:a1:01:b", "1:a1:01:b;"]:
            self.assertFalse(self.check_text(text))


if __name__ == "__main__":
    unittest.main()
