"""Acts between a house and a vault: points 9.7 to 9.9."""

import unittest

from lethe.acts import backup, tend
from lethe.cut import cut
from lethe.errors import Down
from lethe.houses import House
from lethe.vaults import Vault
from tests.plain import Case

SEED = 5
FIRST = ['do put a 1 1 1 "x"', 'do put b 1 1 1 "y"', "snap s", "link a 0 b", "pin p get a"]


class ActsCase(Case):
    def begin(self, lines=tuple(FIRST), places=("t1", "v1", "v2")):
        self.house, self.vault, self.number = House(SEED, list(places)), Vault(SEED), 0
        for line in lines:
            self.say(line)

    def say(self, line):
        self.number += 1
        return self.house.run("s", line, self.number)[0]

    def look(self):
        return self.house.blocks(), self.vault.blocks()

    def backup(self, name, answered="ok", place="v1"):
        before = self.look()
        self.assertEqual(backup(self.house, self.vault, place, name), answered)
        self.assertEqual(self.house.blocks(), before[0])
        if answered != "ok":
            self.assertEqual(self.vault.blocks(), before[1])
        else:
            self.assertEqual(self.vault.files_of(name), self.house.lasting())

    def tend(self, answered, place="v1"):
        self.assertEqual(tend(self.house, self.vault, place), answered)


class TestBackup(ActsCase):
    def test_answers(self):
        self.begin()
        for name in ["", "abc", "A", "a-"]:
            self.backup(name, "bad")
        self.backup("g")
        self.backup("g", "twice")
        self.say('do put c 1 1 1 ""')
        self.backup("h")
        self.backup("i", "full")
        self.assertNotEqual(self.vault.files_of("g"), self.vault.files_of("h"))

    def test_without_the_file_of_the_duties(self):
        self.begin()
        self.say("forget a")
        self.assertEqual(self.house.remove_duties("v1", ["a"]), "ok")
        self.backup("g")
        self.assertNotIn("duty", self.vault.files_of("g"))

    def test_due(self):
        self.begin()
        self.backup("g")
        self.say("forget a")
        for name in ["h", "g", "", "abc"]:
            self.backup(name, "due")
        self.backup("h", "ok", "x1")
        self.assertEqual(self.house.remove_duties("v2", ["a"]), "ok")
        self.assertEqual(self.house.remove_duties("t1", ["a"]), "ok")
        self.backup("i", "due")
        self.tend("ok")
        self.backup("i", "full")
        self.vault.discard("h")
        self.backup("i")

    def test_a_vault_whose_power_fails(self):
        self.begin()
        self.vault.supply(3, 0)
        before = self.house.blocks()
        self.assertEqual(backup(self.house, self.vault, "v1", "g"), "lost")
        self.assertEqual(self.house.blocks(), before)
        self.assertIs(self.vault.is_up(), False)


class TestTend(ActsCase):
    def test_none(self):
        self.begin()
        self.tend("none")
        self.say("forget a")
        self.tend("none", "x1")
        self.house.remove_duties("v1", ["a"])
        before = self.look()
        self.house.supply(0, 0)
        self.vault.supply(0, 0)
        self.tend("none")
        self.assertEqual(self.look(), before)

    def test_all_keys_of_the_place(self):
        self.begin()
        self.backup("g")
        self.say('do put c 1 1 1 "a"')
        self.say("erase b")
        self.backup("h")
        files = {name: self.vault.files_of(name) for name in ["g", "h"]}
        for key in ["c", "a", "none"]:
            self.assertEqual(self.say("forget " + key), "pending")
        self.house.remove_duties("v2", ["a"])
        self.tend("ok")
        for name in ["g", "h"]:
            for key in ["a", "c", "none"]:
                files[name] = cut(SEED, files[name], key)
            self.assertEqual(self.vault.files_of(name), files[name])
        self.assertEqual(self.house.duties(), [("a", "t1"), ("c", "t1"), ("c", "v2"), ("none", "t1"), ("none", "v2")])
        self.tend("none")
        self.tend("ok", "v2")
        self.assertEqual(self.house.duties(), [("a", "t1"), ("c", "t1"), ("none", "t1")])

    def test_without_generations(self):
        self.begin()
        self.say("forget a")
        self.vault.supply(0, 0)
        self.tend("ok")
        self.assertEqual(self.house.duties(), [("a", "t1"), ("a", "v2")])

    def test_a_key_that_is_put_anew(self):
        self.begin()
        self.backup("g")
        self.say("forget a")
        self.say('do put a 2 2 2 "new"')
        self.backup("h", "due")
        self.tend("ok")
        self.backup("h")
        self.assertNotIn("1:a", self.vault.files_of("g")["map"])
        self.assertIn("1:a", self.vault.files_of("h")["map"])
        self.tend("none")
        self.assertIn("1:a", self.vault.files_of("h")["map"])
        # A vault that was tended keeps the record that was put anew until it is forgotten again.
        self.say("forget a")
        self.tend("ok")
        self.assertNotIn("1:a", self.vault.files_of("h")["map"])

    def test_lost_vault(self):
        self.begin()
        self.backup("g")
        self.say("forget a")
        before, duties = self.house.blocks(), self.house.duties()
        self.vault.supply(4, 0)
        self.tend("lost vault")
        self.assertEqual((self.house.blocks(), self.house.duties()), (before, duties))
        self.assertIs(self.vault.is_up(), False)
        self.assertIs(self.house.is_up(), True)
        self.vault.supply(-1, 0)
        self.assertEqual(self.vault.restart(), "not made")
        self.tend("ok")
        self.assertNotIn("1:a", "".join(self.vault.files_of("g").values()))

    def test_lost(self):
        self.begin()
        self.backup("g")
        self.say("forget a")
        left = {"g": cut(SEED, self.vault.files_of("g"), "a")}
        self.house.supply(0, 0)
        self.tend("lost")
        self.assertEqual(self.vault.files_of("g"), left["g"])
        self.assertIs(self.house.is_up(), False)
        self.house.supply(-1, 0)
        self.assertEqual(self.house.restart(90), ("not made", []))
        self.assertIn(("a", "v1"), self.house.duties())
        self.tend("ok")
        self.assertEqual(self.vault.files_of("g"), left["g"])
        self.tend("none")


class TestDown(ActsCase):
    def test_each(self):
        for house_down, vault_down in [(True, False), (False, True), (True, True)]:
            for has_duty in [False, True]:
                self.begin()
                self.backup("g")
                if has_duty:
                    self.say("forget a")
                if house_down:
                    self.house.supply(0, 0)
                    self.assertEqual(self.say("snap y"), "lost")
                if vault_down:
                    self.vault.supply(0, 0)
                    self.assertEqual(self.vault.discard("g"), "lost")
                before = self.look()
                for name in ["h", "g", ""]:
                    self.fails(Down, backup, self.house, self.vault, "v1", name)
                for place in ["v1", "t1", "x"]:
                    self.fails(Down, tend, self.house, self.vault, place)
                self.assertEqual(self.look(), before)


if __name__ == "__main__":
    unittest.main()
