"""Duties: points 9.1 and 9.2."""

import random
import unittest

from lethe.duties import Duties, load_duties
from lethe.errors import BadForm
from tests.plain import Case, near_texts, plain_pack, plain_unpack
from tests.test_snaps import NO_NAMES

KEYS = ["a", "b", "ab", "zz9z", "0", "t1"]
PLACES = ["t1", "t2", "v1", "v2", "a", "home"]


def plain_image(pairs):
    return plain_pack([text for pair in sorted(pairs) for text in pair])


def duties_of(noted):
    duties = Duties()
    for (key, place), number in noted.items():
        duties.note(key, place, number)
    return duties


def is_image(text):
    """Tell whether a text is the image of duties, by writing it anew."""
    parts = plain_unpack(text)
    if not parts or len(parts) % 2 or any(not (1 <= len(part) <= 4) for part in parts):
        return False
    if any(c not in "abcdefghijklmnopqrstuvwxyz0123456789" for part in parts for c in part):
        return False
    return plain_image(set(zip(parts[::2], parts[1::2]))) == text


class DutiesCase(Case):
    def check_is(self, duties, noted):
        self.assertEqual(duties.pairs(), sorted(noted))
        self.assertEqual(duties.image(), plain_image(noted))
        for place in PLACES + ["none", ""]:
            self.assertEqual(duties.keys_of(place), sorted(key for key, other in noted if other == place))
        for key in KEYS + ["none", ""]:
            self.assertEqual(duties.places_of(key), sorted(place for other, place in noted if other == key))

    def check_numbers(self, duties, noted):
        """Check at which number each duty is noted."""
        for (key, place), number in noted.items():
            for moment in [number - 1, number, number + 1]:
                clone = duties.clone()
                clone.remove_noted(place, moment)
                self.assertIs((key, place) in clone.pairs(), moment <= number)


class TestDuties(DutiesCase):
    def test_empty(self):
        self.check_is(Duties(), {})
        self.assertEqual(Duties().image(), "")
        self.assertIs(Duties().remove_noted("t1", 5), False)
        self.assertIs(Duties().remove_keys("t1", ["a"]), False)
        self.check_is(Duties().clone(), {})

    def test_note(self):
        duties = Duties()
        self.assertIsNone(duties.note("b", "t1", 3))
        duties.note("a", "v1", 4)
        duties.note("a", "t1", 5)
        noted = {("b", "t1"): 3, ("a", "v1"): 4, ("a", "t1"): 5}
        self.check_is(duties, noted)
        self.check_numbers(duties, noted)
        self.assertEqual(duties.image(), "1:a2:t11:a2:v11:b2:t1")
        for number in [9, 2, 999999999]:
            duties.note("b", "t1", number)
            noted["b", "t1"] = number
            self.check_is(duties, noted)
            self.check_numbers(duties, noted)

    def test_remove_noted(self):
        noted = {("b", "t1"): 3, ("a", "v1"): 4, ("a", "t1"): 5}
        for place, moment, gone in [("t1", 3, []), ("t1", 4, ["b"]), ("t1", 5, ["b"]), ("t1", 6, ["a", "b"]),
                                    ("v1", 4, []), ("v1", 5, ["a"]), ("t2", 9, [])]:
            duties = duties_of(noted)
            self.assertIs(duties.remove_noted(place, moment), gone != [])
            left = {pair: noted[pair] for pair in noted if pair[1] != place or pair[0] not in gone}
            self.check_is(duties, left)
            self.check_numbers(duties, left)
            self.assertIs(duties.remove_noted(place, moment), False)

    def test_remove_keys(self):
        noted = {("b", "t1"): 3, ("a", "v1"): 4, ("a", "t1"): 5}
        for place, keys, found in [("t1", [], False), ("t1", ["c", "t1"], False), ("t1", ["a"], True),
                                   ("t1", ["b", "c", "a", "a"], True), ("v1", ["b"], False), ("v1", ["a"], True),
                                   ("t2", ["a", "b"], False)]:
            duties, given = duties_of(noted), list(keys)
            self.assertIs(duties.remove_keys(place, given), found)
            self.assertEqual(given, keys)
            self.check_is(duties, {pair: noted[pair] for pair in noted if pair[1] != place or pair[0] not in keys})

    def test_a_clone_is_independent(self):
        noted = {("b", "t1"): 3, ("a", "v1"): 4}
        duties = duties_of(noted)
        clone = duties.clone()
        self.assertIs(type(clone), Duties)
        self.check_numbers(clone, noted)
        clone.note("c", "t1", 5)
        clone.note("b", "t1", 9)
        clone.remove_keys("v1", ["a"])
        self.check_is(duties, noted)
        self.check_numbers(duties, noted)
        duties.remove_noted("t1", 9)
        self.check_is(clone, {("b", "t1"): 9, ("c", "t1"): 5})

    def test_returned_lists_may_be_changed(self):
        duties = duties_of({("b", "t1"): 3, ("a", "v1"): 4})
        for found in [duties.pairs(), duties.keys_of("t1"), duties.places_of("a")]:
            found.clear()
        self.check_is(duties, {("b", "t1"): 3, ("a", "v1"): 4})

    def test_random_duties(self):
        choice = random.Random(91)
        for _ in range(30):
            duties, noted = Duties(), {}
            for number in range(1, 60):
                turn, place = choice.randrange(6), choice.choice(PLACES)
                if turn < 4:
                    key = choice.choice(KEYS)
                    duties.note(key, place, number)
                    noted[key, place] = number
                    continue
                moment, keys = choice.randrange(number + 2), choice.choices(KEYS, k=2)
                gone = [pair for pair in noted if pair[1] == place
                        and (noted[pair] < moment if turn == 4 else pair[0] in keys)]
                found = duties.remove_noted(place, moment) if turn == 4 else duties.remove_keys(place, keys)
                self.assertIs(found, gone != [])
                noted = {pair: noted[pair] for pair in noted if pair not in gone}
                self.check_is(duties, noted)
            self.check_numbers(duties, noted)
            if noted:
                self.check_numbers(load_duties(duties.image(), 77), {pair: 77 for pair in noted})


class TestLoadDuties(DutiesCase):
    def check(self, text):
        """Check a text against the plain reading; tell whether it is the image of duties."""
        if not is_image(text):
            self.fails(BadForm, load_duties, text, 5)
            return False
        parts = plain_unpack(text)
        noted = {pair: 5 for pair in zip(parts[::2], parts[1::2])}
        self.check_is(load_duties(text, 5), noted)
        self.check_numbers(load_duties(text, 5), noted)
        return True

    def test_by_hand(self):
        duties = load_duties("1:a2:t11:a2:v1", 9)
        self.assertEqual(duties.pairs(), [("a", "t1"), ("a", "v1")])
        self.assertIs(duties.remove_noted("t1", 9), False)
        self.assertIs(duties.remove_noted("t1", 10), True)

    def test_near_texts(self):
        found = [self.check(text) for text in near_texts("1:a2:t11:a2:v12:ab2:t1", "a0:1;b")]
        self.assertGreater(sum(found), 5)

    def test_wrong_texts(self):
        for parts in [[], ["a"], ["a", "t1", "b"], ["b", "t1", "a", "t1"], ["a", "v1", "a", "t1"],
                      ["a", "t1", "a", "t1"]]:
            self.assertFalse(self.check(plain_pack(parts)))
        for name in NO_NAMES:
            self.assertFalse(self.check(plain_pack(["a", name])))
            self.assertFalse(self.check(plain_pack([name, "t1"])))
        self.assertFalse(self.check("01:a2:t1"))
        self.assertFalse(self.check("1:a2:t"))

    def test_many(self):
        pairs = {(f"k{k}", place) for k in range(30) for place in PLACES}
        self.assertTrue(self.check(plain_image(pairs)))


if __name__ == "__main__":
    unittest.main()
