"""The hall of lasting files: points 6.20 and 6.21."""

import random
import unittest

from lethe.errors import BadForm
from lethe.hall import Hall
from lethe.lasting import lasting_files
from lethe.revive import hall_of
from tests.plain import Case, near_texts, plain_pack
from tests.plain_hall import PlainHall, plain_hall_of, random_hall_line

KEYS = ["a", "b", "b1", "c", "zz9z"]
FILLED = ['do put a 1 2 3 "red a"', 'do put b 0 0 0 "b"', 'do put c 5 5 2 "fox red"', "do hold b me", "do hold b us",
          "do drop b", "snap x", 'do put a 7 7 0 "fox"', "link a 0 b", "link c 2 a", "pin p span a b",
          'pin q ask "fox"', "snap y"]


def hall_told(seed, lines):
    hall = Hall(seed)
    for line in lines:
        hall.run("s", line)
    return hall


def random_lines(choice, many):
    return [random_hall_line(choice, KEYS) for _ in range(many)]


class ReviveCase(Case):
    def check_lives(self, hall, seed, lines):
        """Check that the hall of the lasting files has the same image, and the same answers to further lines."""
        files = lasting_files(hall)
        revived = hall_of(seed, files)
        self.assertIs(type(revived), Hall)
        self.assertEqual(revived.seed, seed)
        self.assertEqual(revived.transactions, {})
        for session in sorted(hall.transactions):
            hall.run(session, "leave")
        self.assertEqual(revived.image(), hall.image())
        self.assertEqual(lasting_files(revived), files)
        for line in lines:
            self.assertEqual(revived.run("s", line), hall.run("s", line), line)
        self.assertEqual(revived.image(), hall.image())
        return files

    def check(self, seed, files):
        """Check files against the plain reading of them; tell whether there is a hall of them."""
        before = dict(files)
        plain = plain_hall_of(seed, files)
        if plain is None:
            self.fails(BadForm, hall_of, seed, files)
        else:
            self.assertEqual(hall_of(seed, files).image(), plain.image())
        self.assertEqual(files, before)
        return plain is not None


class TestHallOf(ReviveCase):
    def test_an_empty_hall(self):
        for seed in [0, 5, 999999]:
            self.assertEqual(hall_of(seed, {"map": "0;"}).image(), Hall(seed).image())
            self.check_lives(Hall(seed), seed, FILLED)

    def test_by_hand(self):
        hall = hall_of(5, {"map": "0;", "log": "6:drop a", "snaps": "1:x2:0;", "pins": "1:p5:count1:0"})
        for line, answered in [("log", "drop a"), ("at x count", "0"), ("pinned p", "0"), ("snap x", "twice"),
                               ("pin p view", "twice"), ('do put a 1 1 1 ""', "new"), ("pinned p", "1")]:
            self.assertEqual(hall.run("s", line)[0], answered)

    def test_random_halls(self):
        choice = random.Random(621)
        seen = set()
        for _ in range(80):
            seed = choice.choice([0, 5, 999999])
            hall = Hall(seed)
            for line in random_lines(choice, choice.randrange(90)):
                hall.run(choice.choice(["s", "t"]), line)
            seen |= set(self.check_lives(hall, seed, random_lines(choice, 30)))
        self.assertEqual(len(seen), 7)

    def test_the_files_are_copied(self):
        files = lasting_files(hall_told(5, FILLED))
        before = dict(files)
        hall = hall_of(5, files)
        image = hall.image()
        files.clear()
        self.assertEqual(hall.image(), image)
        files.update(before)
        for line in FILLED:
            hall.run("s", line)
        self.assertEqual(files, before)

    def test_the_log_is_not_compared_with_the_map(self):
        for lines in [["drop a"], ["free b me", "hold a me"], ['put a 1 1 1 ""'] * 24]:
            self.assertTrue(self.check(5, {"map": "0;", "log": plain_pack(lines)}))
        files = lasting_files(hall_told(5, FILLED))
        del files["log"]
        self.assertTrue(self.check(5, files))


class TestBadForm(ReviveCase):
    def test_near_texts(self):
        files = lasting_files(hall_told(5, FILLED))
        self.assertEqual(len(files), 7)
        good = 0
        for name in files:
            for text in near_texts(files[name], "a0:;1"):
                good += self.check(5, {**files, name: text})
        self.assertGreater(good, 20)

    def test_one_file_away_or_empty(self):
        files = lasting_files(hall_told(5, FILLED))
        for name in files:
            left = {other: files[other] for other in files if other != name}
            # The log, the edges, the snapshots and the pins may also be those of a hall that has none.
            self.assertIs(self.check(5, left), name in ["log", "edges", "snaps", "pins"])
            self.assertFalse(self.check(5, {**files, name: ""}))
            self.assertFalse(self.check(5, {"map": "0;", name: ""}))
        self.assertFalse(self.check(5, {}))

    def test_a_foreign_file(self):
        for files in [{"map": "0;"}, lasting_files(hall_told(5, FILLED))]:
            for name in ["duty", "maps", "", "a-map", "MAP", "index"]:
                for text in ["", "0;", "1:a2:t1"]:
                    self.assertFalse(self.check(5, {**files, name: text}))
        self.assertFalse(self.check(5, {"map": "0;", "words": "0;"}))
        self.assertFalse(self.check(5, {"map": "0;", "points": "0;"}))
        self.assertFalse(self.check(5, {"map": "0;", "words": "0;", "points": "0;"}))

    def test_a_file_of_another_hall(self):
        files = lasting_files(hall_told(5, FILLED))
        for lines in [FILLED[:3], FILLED + ['do put d 1 1 1 "fox"'], FILLED + ['do put c 5 5 2 "red fox"'],
                      FILLED + ['do put c 5 6 2 "fox red"'], FILLED + ["do drop c"]]:
            other = lasting_files(hall_told(5, lines))
            for name in files:
                if name in other:
                    self.check(5, {**files, name: other[name]})
                    self.check(5, {**other, name: files[name]})
        for name in ["map", "words", "points"]:
            other = lasting_files(hall_told(5, FILLED + ['do put c 5 6 3 "fox"']))
            self.assertFalse(self.check(5, {**files, name: other[name]}))
        self.assertFalse(self.check(6, files))

    def test_parts_exchanged_doubled_and_left_out(self):
        files = lasting_files(hall_told(5, FILLED))
        plain = PlainHall(5)
        for line in FILLED:
            plain.run("s", line)
        pins = [["p", "span a b", "a"], ["q", 'ask "fox"', "a c"]]
        snaps = [[name, plain.snaps[name].map_image()] for name in ["x", "y"]]
        edges = [["a", "0", "b"], ["c", "2", "a"]]
        for name, rows in [("pins", pins), ("snaps", snaps), ("edges", edges)]:
            packed = plain_pack([text for row in rows for text in row])
            self.assertEqual(files[name], packed)
            for wrong in [rows[::-1], [rows[0], rows[0]], rows + [rows[1]], [rows[0], rows[1][:-1]], [rows[0][1:]],
                          [row[::-1] for row in rows]]:
                text = plain_pack([text for row in wrong for text in row])
                self.assertFalse(self.check(5, {**files, name: text}), (name, wrong))
            self.assertTrue(self.check(5, {**files, name: plain_pack(rows[1])}))

    def test_beyond_the_limits(self):
        for many in [24, 25]:
            self.assertIs(self.check(5, {"map": "0;", "log": plain_pack(["drop a"] * many)}), many == 24)
        for many in [2, 3]:
            parts = [text for name in "wxyz"[:many] for text in (name, "0;")]
            self.assertIs(self.check(5, {"map": "0;", "snaps": plain_pack(parts)}), many == 2)
        for many in [3, 4]:
            parts = [text for name in "wxyz"[:many] for text in (name, "count", "0")]
            self.assertIs(self.check(5, {"map": "0;", "pins": plain_pack(parts)}), many == 3)
        files = lasting_files(hall_told(5, ['do put a 1 1 1 ""', 'do put b 1 1 1 ""', 'do put c 1 1 1 ""']))
        rows = [(a, str(kind), b) for a in "abc" for kind in range(4) for b in "abc"]
        for many in [24, 25]:
            text = plain_pack([part for row in rows[:many] for part in row])
            self.assertIs(self.check(5, {**files, "edges": text}), many == 24)

    def test_edges_between_keys_that_are_not_there(self):
        files = lasting_files(hall_told(5, FILLED))
        for row, fits in [(["a", "0", "a"], True), (["a", "3", "c"], True), (["a", "0", "d"], False),
                          (["d", "0", "a"], False), (["d", "0", "d"], False), (["a", "4", "b"], False),
                          (["a", "00", "b"], False)]:
            self.assertIs(self.check(5, {**files, "edges": plain_pack(row)}), fits)
        self.assertFalse(self.check(5, {"map": "0;", "edges": plain_pack(["a", "0", "b"])}))

    def test_lines_of_the_wrong_sort(self):
        for line in ["get a", "count", "", "drop", "drop A", "do drop a", "log", 'put a 1 1 1 "', "drop  a", "erase a"]:
            self.assertFalse(self.check(5, {"map": "0;", "log": plain_pack([line])}), line)
        for name, line, kept, fits in [
                ("p", "count", "0", True), ("p", "count", "1", False), ("p", "count", "", False),
                ("p", "drop a", "none", False), ("P", "count", "0", False), ("", "count", "0", False),
                ("p", "do count", "bad", False), ("p", "COUNT", "bad", False), ("p", "", "bad", False),
                ("p", "get a", "none", True), ("p", "span a b", "-", True)]:
            self.assertIs(self.check(5, {"map": "0;", "pins": plain_pack([name, line, kept])}), fits)
        for name, image, fits in [("x", "0;", True), ("X", "0;", False), ("", "0;", False), ("abcde", "0;", False),
                                  ("x", "", False), ("x", "00;", False), ("x", "1;01:a0:", False)]:
            self.assertIs(self.check(5, {"map": "0;", "snaps": plain_pack([name, image])}), fits)


if __name__ == "__main__":
    unittest.main()
