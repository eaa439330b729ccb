"""Cutting a key out of lasting files: point 6.22."""

import random
import unittest

from lethe.cut import cut
from lethe.errors import NotAllowed
from lethe.hall import Hall
from lethe.lasting import lasting_files
from tests.plain import Case
from tests.plain_hall import PlainHall, plain_hall_of, random_hall_line
from tests.test_revive import FILLED, hall_told
from tests.test_snaps import NO_NAMES

KEYS = ["a", "b", "b1", "c", "zz9z"]


def plain_cut(seed, files, key):
    """Return the files of the plain hall without the key, whoever holds its record."""
    hall = plain_hall_of(seed, files)
    for store in hall.stores_that_hold():
        for record in store.records.values():
            record["freed"] = record["holders"]
            record["holders"] = []
    assert hall.erase(key) == "erased"
    for store in hall.stores_that_hold():
        for record in store.records.values():
            record["holders"] = record["freed"]
    return hall.lasting()


class CutCase(Case):
    def check(self, seed, files, key):
        before = dict(files)
        left = cut(seed, files, key)
        self.assertEqual(left, plain_cut(seed, files, key))
        self.assertEqual(files, before)
        self.assertEqual(cut(seed, left, key), left)
        self.assertIsNotNone(plain_hall_of(seed, left))
        return left


class TestCut(CutCase):
    def test_example(self):
        self.assertEqual(cut(5, {"map": "0;", "log": "6:drop a6:drop b"}, "a"), {"map": "0;", "log": "6:drop b"})

    def test_each_key_of_a_filled_hall(self):
        for seed in [0, 5, 999999]:
            files = lasting_files(hall_told(seed, FILLED))
            for key in ["a", "b", "c", "none", "x", "p", "me", "fox", "red"]:
                left = self.check(seed, files, key)
                self.assertIs(left == files, key not in ["a", "b", "c"])

    def test_by_hand(self):
        files = lasting_files(hall_told(5, FILLED))
        left = cut(5, files, "a")
        self.assertEqual(sorted(left), ["log", "map", "pins", "points", "snaps", "words"])
        self.assertEqual(left["pins"], '1:q9:ask "fox"1:c')
        self.assertNotIn("1:a", "".join(left.values()))

    def test_the_same_as_the_hall_that_erases(self):
        choice = random.Random(622)
        seen = {"erased": 0, "held": 0}
        for _ in range(150):
            seed = choice.choice([0, 5, 999999])
            hall, plain = Hall(seed), PlainHall(seed)
            for _ in range(choice.randrange(80)):
                session, line = choice.choice(["s", "t"]), random_hall_line(choice, KEYS)
                hall.run(session, line)
                plain.run(session, line)
            files = lasting_files(hall)
            for key in choice.sample(KEYS + ["none"], 3):
                left = self.check(seed, files, key)
                answered, _ = hall.run("u", "erase " + key)
                seen[answered] += 1
                if answered == "erased":
                    self.assertEqual(left, lasting_files(hall))
                    files = left
        self.assertGreater(min(seen.values()), 40)

    def test_two_keys_in_either_order(self):
        choice = random.Random(623)
        for _ in range(60):
            files = lasting_files(hall_told(5, [random_hall_line(choice, KEYS) for _ in range(60)]))
            first, second = choice.choice(KEYS), choice.choice(KEYS)
            self.assertEqual(cut(5, cut(5, files, first), second), cut(5, cut(5, files, second), first))

    def test_holders_do_not_matter(self):
        lines = ['do put a 1 1 1 "x"', "do hold a me", "do hold a us", "snap x", "do drop a"]
        left = cut(5, lasting_files(hall_told(5, lines)), "a")
        self.assertEqual(left, {"map": "0;", "snaps": "1:x2:0;"})
        self.assertEqual(hall_told(5, lines).run("s", "erase a"), ("held", []))

    def test_all_keys(self):
        files = lasting_files(hall_told(5, FILLED))
        for key in ["a", "b", "c"]:
            files = cut(5, files, key)
        # Neither pin speaks of a, b or c alone: that with the question about words stays.
        self.assertEqual(files, {"map": "0;", "snaps": "1:x2:0;1:y2:0;", "pins": '1:q9:ask "fox"1:-'})

    def test_not_allowed(self):
        for files in [{"map": "0;"}, lasting_files(hall_told(5, FILLED))]:
            before = dict(files)
            for key in NO_NAMES:
                self.fails(NotAllowed, cut, 5, files, key)
            self.assertEqual(files, before)

    def test_a_new_dict(self):
        files = lasting_files(hall_told(5, FILLED))
        before = dict(files)
        cut(5, files, "none").clear()
        self.assertEqual(files, before)


if __name__ == "__main__":
    unittest.main()
