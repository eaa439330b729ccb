"""Calm realms: points 10.5 and 10.7 to 10.10."""

import random
import unittest

from lethe.calm import calm, forgotten, without
from lethe.errors import NotAllowed
from lethe.realms import Realm
from tests.plain import Case
from tests.plain_hall import plain_hall_spoken, random_hall_line
from tests.plain_house import PlainHouse
from tests.plain_realm import KEYS, HandRealm, random_event
from tests.test_hall_runs import is_question


def all_blocks(realm):
    return {place: realm.blocks_of(place) for place in realm.places()}


def plain_calm(seed, twins, vaults, effects):
    """Return a calm realm that the test handles by hand."""
    realm = HandRealm(seed, twins, vaults)
    for word, *rest in effects:
        if word == "line":
            realm.handle(("say", "c", rest[0]))
        else:
            realm.handle(("backup" if word == "keep" else "discard", *rest))
        if word == "line" and rest[0].startswith("forget "):
            realm.settle()
    realm.settle()
    return realm


def plain_without(effects, key):
    return [effect for effect in effects if effect[0] != "line" or key not in plain_hall_spoken(effect[1])]


def plain_forgotten(effects, key):
    """Tell whether a key was forgotten, and nothing behind its last forget line speaks of it."""
    about = [effect[1] for effect in effects if effect[0] == "line" and key in plain_hall_spoken(effect[1])]
    return about != [] and about[-1] == "forget " + key


def random_realm(choice, twins, vaults, many):
    """Return a realm in which many events happened, and which settled."""
    realm = Realm(choice.choice([0, 5, 999999]), twins, vaults)
    for _ in range(many):
        realm.handle(random_event(choice, realm.places()))
    realm.settle()
    return realm


class TestEffects(unittest.TestCase):
    EFFECTS = [("line", 'do put a 1 1 1 "b"'), ("line", "do hold a b"), ("keep", "v1", "b"), ("line", "link a 0 b"),
               ("line", "pin b span c a"), ("line", "forget b"), ("line", "do drop a"), ("discard", "v1", "b"),
               ("line", "snap b"), ("line", "forget a"), ("line", "unsnap b"), ("line", "erase c"),
               ("line", "pin p get d")]

    def test_without(self):
        for key, left in [("a", [1, 2, 5, 7, 8, 10, 11, 12]), ("b", [0, 1, 2, 4, 6, 7, 8, 9, 10, 11, 12]),
                          ("c", [0, 1, 2, 3, 5, 6, 7, 8, 9, 10, 12]), ("d", list(range(12))), ("v1", list(range(13))),
                          ("", list(range(13)))]:
            before = list(self.EFFECTS)
            # A holder is no key: the second line speaks of a alone.
            wanted = [self.EFFECTS[k] for k in left if (key, k) != ("a", 1)]
            self.assertEqual(without(self.EFFECTS, key), wanted)
            self.assertEqual(self.EFFECTS, before)
        self.assertEqual(without([], "a"), [])
        without(self.EFFECTS, "").clear()
        self.assertEqual(len(self.EFFECTS), 13)

    def test_forgotten(self):
        for key, told in [("a", True), ("b", True), ("c", False), ("d", False), ("p", False), ("", False)]:
            self.assertIs(forgotten(self.EFFECTS, key), told)
        for behind, told in [(("line", "do put a 1 1 1 \"\""), False), (("line", "erase a"), False),
                             (("line", "link c 0 a"), False), (("line", "pin q rank a"), False),
                             (("line", "forget b"), True), (("line", "forget a"), True), (("keep", "v1", "a"), True),
                             (("discard", "v1", "a"), True), (("line", "snap a"), True), (("line", "unpin a"), True),
                             (("line", "do hold b a"), True), (("line", 'do put b 1 1 1 "a"'), True),
                             (("line", 'pin q ask "a"'), True)]:
            self.assertIs(forgotten(self.EFFECTS + [behind], "a"), told, behind)
        self.assertIs(forgotten([], "a"), False)
        self.assertIs(forgotten([("line", "erase a")], "a"), False)
        self.assertIs(forgotten([("line", "forget a")], "a"), True)

    def test_random_effects(self):
        choice = random.Random(105)
        lines = [random_hall_line(choice, KEYS) for _ in range(200)] + [f"forget {key}" for key in KEYS] * 8
        for _ in range(300):
            effects = [("line", choice.choice(lines)) for _ in range(choice.randrange(12))]
            effects += [("keep", "v1", "a"), ("discard", "v1", "b")][:choice.randrange(3)]
            choice.shuffle(effects)
            for key in KEYS + ["x", "me", ""]:
                self.assertEqual(without(effects, key), plain_without(effects, key))
                self.assertIs(forgotten(effects, key), plain_forgotten(effects, key))


class TestCalm(Case):
    def test_no_effects(self):
        for seed, twins, vaults in [(0, 0, 0), (5, 3, 3), (999999, 1, 2)]:
            realm = calm(seed, twins, vaults, [])
            self.assertIs(type(realm), Realm)
            self.assertEqual((realm.seed, realm.effects()), (seed, []))
            self.assertEqual(all_blocks(realm), plain_calm(seed, twins, vaults, []).blocks())

    def test_by_hand(self):
        effects = [("line", 'do put a 1 1 1 "x"'), ("keep", "v1", "g"), ("line", "forget a"), ("line", "snap s"),
                   ("keep", "v1", "h"), ("discard", "v1", "g")]
        realm, hand = calm(5, 1, 1, effects), plain_calm(5, 1, 1, effects)
        self.assertEqual(realm.effects(), effects)
        self.assertEqual((all_blocks(realm), realm.number()), (hand.blocks(), hand.number))
        self.assertEqual(hand.vaults["v1"].generations(), ["h"])
        self.assertEqual(hand.twins["t1"].files(), {"map": "0;", "snaps": "1:s2:0;"})
        self.assertEqual(realm.letters(), [])

    def test_the_session_and_the_settling(self):
        realm = calm(5, 1, 0, [("line", "forget a"), ("line", "snap s")])
        # Two lines. Settling has two events of power, a question, an answer, its parts and a confirmation.
        self.assertEqual(realm.number(), 2 + (2 + 2 + 1 + 1) + (2 + 2 + 2 + 1))
        self.assertEqual(realm.handle(("say", "c", "status a")), "clear")

    def test_not_allowed(self):
        for twins, vaults in [(-1, 0), (4, 0), (0, -1), (0, 4)]:
            self.fails(NotAllowed, calm, 5, twins, vaults, [])

    def test_the_effects_are_copied(self):
        effects = [("line", 'do put a 1 1 1 "x"'), ("line", "forget a")]
        realm = calm(5, 1, 1, effects)
        self.assertEqual(effects, [("line", 'do put a 1 1 1 "x"'), ("line", "forget a")])
        effects.clear()
        self.assertEqual(len(realm.effects()), 2)

    def test_against_one_by_hand(self):
        choice = random.Random(107)
        for _ in range(12):
            effects = random_realm(choice, 2, 2, 80).effects()
            realm, hand = calm(5, 2, 2, effects), plain_calm(5, 2, 2, effects)
            self.assertEqual((all_blocks(realm), realm.number()), (hand.blocks(), hand.number))


class TestWhatHolds(Case):
    def check(self, realm, twins, vaults):
        """Check points 10.8 and 10.9; return how many keys were forgotten last."""
        effects = realm.effects()
        other = calm(realm.seed, twins, vaults, effects)
        self.assertEqual(all_blocks(other), all_blocks(realm), effects)
        self.assertEqual(other.effects(), effects)
        keys = [key for key in KEYS + ["x"] if forgotten(effects, key)]
        for key in keys:
            left = calm(realm.seed, twins, vaults, without(effects, key))
            self.assertEqual(all_blocks(left), all_blocks(realm), (key, effects))
        return len(keys)

    def test_random_realms(self):
        choice = random.Random(108)
        found = 0
        for k in range(120):
            twins, vaults = (2, 2) if k % 3 else (choice.randrange(4), choice.randrange(4))
            found += self.check(random_realm(choice, twins, vaults, choice.choice([20, 60, 150])), twins, vaults)
        self.assertGreater(found, 100)

    def test_settled_in_between(self):
        choice = random.Random(109)
        for _ in range(10):
            realm = random_realm(choice, 2, 2, 40)
            for _ in range(3):
                for _ in range(30):
                    realm.handle(random_event(choice, realm.places()))
                realm.settle()
                self.check(realm, 2, 2)

    def test_other_events_with_the_same_effects(self):
        rows = [("line", 'do put a 1 1 1 "x"'), ("line", 'do put b 2 2 2 "y"'), ("keep", "v1", "g"),
                ("line", "do drop b"), ("line", "forget a")]
        first = calm(5, 1, 1, rows)
        second = Realm(5, 1, 1)
        for event in [("say", "s", "begin"), ("say", "s", 'do put a 1 1 1 "x"'), ("say", "s", 'do put b 2 2 2 "y"'),
                      ("say", "t", "begin"), ("say", "t", 'do put z 9 9 1 "never"'), ("ask", "t1"), ("deliver", 0),
                      ("say", "s", "commit"), ("power", "home", 0, 0), ("say", "t", "commit"), ("restart", "home"),
                      ("power", "home", -1, 0), ("deliver", 0), ("power", "v1", 9, 9), ("backup", "v1", "g"),
                      ("say", "s", "do drop b"), ("power", "v1", 0, 63), ("restart", "v1"), ("power", "v1", -1, 0),
                      ("restart", "v1"), ("away", "v1"), ("ask", "t1"), ("deliver", 0), ("power", "t1", 5, 5),
                      ("say", "u", "forget a")] + [("deliver", 0)] * 9:
            second.handle(event)
        self.assertNotEqual(all_blocks(first), all_blocks(second))
        second.settle()
        self.assertEqual(second.effects(), rows)
        self.assertEqual(all_blocks(first), all_blocks(second))
        self.assertEqual(all_blocks(calm(5, 1, 1, [rows[1], rows[2], rows[3]])), all_blocks(second))

    def test_a_key_put_anew(self):
        for is_tended in [False, True]:
            realm = Realm(5, 0, 2)
            for event in [("say", "s", 'do put a 1 1 1 "old"'), ("backup", "v1", "g"), ("say", "s", "forget a"),
                          ("tend", "v1") if is_tended else ("away", "v1"), ("say", "s", 'do put a 2 2 2 "new"'),
                          ("backup", "v1", "h"), ("backup", "v2", "h")]:
                realm.handle(event)
            self.assertIs(("keep", "v1", "h") in realm.effects(), is_tended)
            realm.settle()
            self.assertIs(forgotten(realm.effects(), "a"), False)
            self.check(realm, 0, 2)
            joined = "".join(realm.blocks_of("v1"))
            self.assertNotIn("old", joined)
            self.assertIs("new" in joined, is_tended)
            realm.handle(("say", "s", "forget a"))
            realm.settle()
            self.assertEqual(self.check(realm, 0, 2), 1)
            self.assertNotIn("new", "".join("".join(realm.blocks_of(place)) for place in realm.places()))

    def test_a_keep_that_is_made_behind_the_forgetting(self):
        for writes in range(40):
            realm = Realm(5, 1, 1)
            for event in [("say", "s", 'do put a 1 1 1 "old"'), ("power", "v1", writes, 0), ("backup", "v1", "g"),
                          ("say", "s", "forget a"), ("say", "s", 'do put b 2 2 2 "new"')]:
                realm.handle(event)
            realm.settle()
            self.assertEqual(self.check(realm, 1, 1), 1)
            self.assertNotIn("old", "".join("".join(realm.blocks_of(place)) for place in realm.places()))

    def test_questions_are_answered_as_by_plain_lists(self):
        choice = random.Random(110)
        asked = 0
        for _ in range(25):
            realm = Realm(5, 1, 1)
            for _ in range(80):
                realm.handle(random_event(choice, realm.places()))
            realm.settle()
            realm.handle(("restart", "home"))
            plain = PlainHouse(5, [])
            for effect in realm.effects():
                if effect[0] == "line":
                    plain.run("c", effect[1], 1)
            for _ in range(60):
                line = random_hall_line(choice, KEYS)
                if is_question(line):
                    self.assertEqual(realm.handle(("say", "q", line)), plain.run("q", line, 1)[0])
                    asked += 1
        self.assertGreater(asked, 200)


if __name__ == "__main__":
    unittest.main()
