"""Houses by hand and in random runs: points 7.1 to 7.7, without failures of the power."""

import random
import re
import unittest

from lethe import houses as module
from lethe.errors import Down, NotAllowed
from lethe.hall import Hall
from lethe.houses import House
from lethe.lasting import lasting_files
from tests.plain import Case, plain_rest
from tests.plain_hall import random_hall_line
from tests.plain_house import PlainHouse
from tests.test_snaps import NO_NAMES
from tests.test_vaults import MOST

CELLS = 192
PLACES = ["t1", "t2", "v1"]
KEYS = ["a", "b", "c", "d", "lost"]


class HouseCase(Case):
    """A house and a plain one that are told the same."""

    def begin(self, places, seed=5):
        self.seed = seed
        self.house = House(seed, places)
        self.plain = PlainHouse(seed, places)
        self.number = 0

    def run_both(self, session, line):
        self.number += 1
        told = self.house.run(session, line, self.number)
        self.assertEqual(told, self.plain.run(session, line, self.number), (session, line))
        return told

    def says(self, *rows):
        for session, line, answered in rows:
            self.assertEqual(self.run_both(session, line)[0], answered, (session, line))
            self.check_is()

    def check_is(self):
        self.assertIs(self.house.is_up(), True)
        self.assertEqual(self.house.lasting(), self.plain.lasting())
        self.assertEqual(self.house.duties(), self.plain.duties())

    def check_blocks(self):
        """Check that the disk is at rest with the files and nothing else."""
        self.assertEqual(self.house.blocks(), plain_rest(self.seed, CELLS, self.plain.files()))

    def restart_both(self, answered="clean"):
        self.number += 1
        self.assertEqual(self.house.restart(self.number), (answered, []))
        self.plain.restart(self.number)
        self.check_is()
        self.check_blocks()

    def fill(self):
        """Give the house records, edges, a snapshot, pins and duties."""
        for line in ['do put a 1 2 3 "red a"', 'do put b 0 0 0 "fox"', 'do put c 5 5 2 ""', "do hold c me", "snap x",
                     "link a 0 b", "pin p count", 'pin q ask "red"', "forget d", "forget e"]:
            self.run_both("s", line)
        self.check_is()
        self.check_blocks()


class TestHouse(HouseCase):
    def test_worked_example(self):
        house = House(5, [])
        self.assertEqual(house.run("a", 'do put k 1 2 0 "x"', 1), ("new", ['do put k 1 2 0 "x"']))
        house = House(5, [])
        self.assertIsNone(house.supply(0, 0))
        self.assertEqual(house.run("a", 'do put k 1 2 0 "x"', 1), ("lost", []))
        house.supply(-1, 0)
        self.assertEqual(house.restart(2), ("not made", []))

    def test_new(self):
        for seed in [0, 5, 999999]:
            for places in [[], ["t1"], ["v1", "t1"], ["a", "b", "c", "d", "e", "f"]]:
                self.begin(places, seed)
                self.check_is()
                self.check_blocks()
                self.assertEqual(self.house.lasting(), {"map": "0;"})
                self.assertEqual(self.house.duties(), [])

    def test_constant(self):
        self.assertEqual(module.MAX_PENDING, 6)

    def test_places_that_are_not_allowed(self):
        for places in [["a", "b", "c", "d", "e", "f", "g"], ["t1", "t1"], ["a", "b", "a"]]:
            self.fails(NotAllowed, House, 5, places)
        for name in NO_NAMES:
            self.fails(NotAllowed, House, 5, [name])
            self.fails(NotAllowed, House, 5, ["t1", name])

    def test_the_places_are_copied(self):
        places = ["v1", "t1"]
        house = House(5, places)
        places.append("t2")
        house.run("s", "forget a", 1)
        self.assertEqual(places, ["v1", "t1", "t2"])
        self.assertEqual(house.duties(), [("a", "t1"), ("a", "v1")])

    def test_what_is_returned_may_be_changed(self):
        self.begin(PLACES)
        self.fill()
        self.house.lasting().clear()
        self.house.duties().clear()
        self.house.blocks().clear()
        self.house.run("s", "log", 90)[1].append("x")
        self.house.run("s", "snap y", 91)[1].append("x")
        self.plain.run("s", "snap y", 91)
        self.check_is()
        self.check_blocks()

    def test_all_files_fit(self):
        self.begin(["aaa1", "aaa2", "aaa3", "aaa4", "aaa5", "aaa6"])
        for line in MOST + [f"forget key{k}" for k in range(7)]:
            self.run_both("s", line)
        self.check_is()
        self.check_blocks()
        files = self.house.lasting()
        self.assertEqual((len(files), len(self.house.duties())), (7, 36))
        self.assertEqual((self.plain.hall.run("s", "stats")[0], len(self.plain.hall.edges)),
                         ("put 8 drop 0 hold 16 free 0", 24))

    def test_files_on_the_disk(self):
        self.begin(PLACES)
        self.fill()
        self.assertEqual(sorted(self.house.lasting()), ["edges", "log", "map", "pins", "points", "snaps", "words"])
        joined = "".join(self.house.blocks())
        self.assertIn("04duty00040" + "1:d2:t11:d2:t21:d2:v11:e2:t11:e2:t21:e2:v1"[:40], joined)


class TestForget(HouseCase):
    def test_with_places(self):
        self.begin(["v1", "t1"])
        self.says(("s", 'do put a 1 1 1 "x"', "new"), ("s", "status a", "clear"), ("s", "forget a", "pending"),
                  ("t", "status a", "pending t1 v1"), ("s", "do get a", "none"), ("s", "log", "-"))
        self.assertEqual(self.house.run("s", "forget a", 9), ("pending", ["forget a"]))
        self.assertEqual(self.house.duties(), [("a", "t1"), ("a", "v1")])

    def test_without_places(self):
        self.begin([])
        self.says(("s", 'do put a 1 1 1 "x"', "new"), ("s", "forget a", "forgotten"), ("s", "status a", "clear"),
                  ("s", "do get a", "none"), ("s", "forget a", "forgotten"), ("s", "forget none", "forgotten"))
        self.assertEqual(self.house.run("s", "forget a", 9), ("forgotten", ["forget a"]))
        self.check_blocks()
        for key in ["b", "c", "d", "e", "f", "g", "h"]:
            self.says(("s", f"forget {key}", "forgotten"))

    def test_duties_for_6_other_keys_and_for_this_one(self):
        self.begin(["t1"])
        for key in ["a", "b", "c", "d", "e"]:
            self.says(("s", f"forget {key}", "pending"))
        self.says(("s", 'do put g 1 1 1 "x"', "new"), ("s", "do hold g me", "ok"), ("s", "forget g", "held"),
                  ("s", "forget f", "pending"), ("s", "forget g", "full"), ("s", "do free g me", "ok"),
                  ("s", "forget g", "full"), ("s", "do get g", '1 1 1 "x"'), ("s", "status g", "clear"),
                  ("s", "forget f", "pending"), ("s", "forget a", "pending"), ("s", "forget h", "full"))
        self.assertEqual(self.house.remove_duties("t1", ["c"]), self.plain.remove_duties("t1", ["c"]))
        self.says(("s", "forget g", "pending"), ("s", "forget g", "pending"), ("s", "forget c", "full"),
                  ("s", "forget b", "pending"))
        self.check_blocks()

    def test_seven_keys_with_duties(self):
        # Six keys and one that is there already: a key that is forgotten anew does not count itself.
        self.begin(["t1", "t2"])
        for key in ["a", "b", "c", "d", "e", "f"]:
            self.says(("s", f"forget {key}", "pending"))
        self.assertEqual(self.house.remove_duties("t1", ["a", "b"]), "ok")
        self.plain.remove_duties("t1", ["a", "b"])
        self.says(("s", "forget g", "full"), ("s", "forget a", "pending"), ("s", "status a", "pending t1 t2"),
                  ("s", "status b", "pending t2"))

    def test_held(self):
        self.begin(["t1"])
        self.says(("s", 'do put a 1 1 1 "x"', "new"), ("s", "do hold a me", "ok"), ("s", "forget a", "held"),
                  ("s", "status a", "clear"), ("s", "snap x", "ok"), ("s", "do free a me", "ok"),
                  ("s", "forget a", "held"), ("s", "unsnap x", "ok"), ("t", "begin", "ok"), ("t", "do hold a me", "ok"),
                  ("s", "forget a", "held"), ("t", "forget a", "held"), ("t", "do free a me", "ok"),
                  ("t", "forget a", "pending"), ("t", "do get a", "none"), ("t", "commit", "done 0"))

    def test_in_a_transaction(self):
        self.begin(["t1"])
        self.says(("s", 'do put a 1 1 1 "x"', "new"), ("t", "begin", "ok"), ("t", "do drop a", "gone"),
                  ("t", 'do put b 1 1 1 "y"', "new"), ("t", "forget a", "pending"), ("t", "status a", "pending t1"),
                  ("t", "abort", "ok"), ("s", "status a", "pending t1"), ("s", "do get a", "none"))

    def test_duties_stay_when_a_key_is_put_anew(self):
        self.begin(["t1"])
        self.says(("s", "forget a", "pending"), ("s", 'do put a 1 1 1 "x"', "new"), ("s", "status a", "pending t1"),
                  ("s", "erase a", "erased"), ("s", "status a", "pending t1"))

    def test_bad(self):
        self.begin(["t1"])
        self.fill()
        for word in ["forget", "status"]:
            for line in ["", " ", " A", " a b", "  a", " a ", " abcde", ' "a"', "  ", " a-"]:
                self.says(("s", word + line, "bad"))
            self.says(("s", word.upper() + " a", "bad"), ("s", " " + word + " a", "bad"))
            for session in NO_NAMES:
                self.says((session, word + " a", "bad"))
        self.assertEqual(Hall(5).run("s", "forget a"), ("bad", []))
        self.assertEqual(Hall(5).run("s", "status a"), ("bad", []))


class TestNumbers(HouseCase):
    """At which number a duty is noted, as confirmed tells."""

    def noted(self, place, key, number):
        """Check that a duty is noted at a number, and remove it."""
        self.assertIn((key, place), self.house.duties())
        self.assertEqual(self.house.confirmed(place, number), "none")
        self.assertIn((key, place), self.house.duties())
        self.assertEqual(self.house.confirmed(place, number + 1), "ok")
        self.assertNotIn((key, place), self.house.duties())
        self.assertEqual(self.house.confirmed(place, number + 1), "none")

    def test_forget(self):
        house = self.house = House(5, ["t1", "v1"])
        house.run("s", "forget a", 7)
        self.noted("t1", "a", 7)
        self.assertEqual(house.duties(), [("a", "v1")])
        house.run("s", "forget a", 9)
        self.noted("t1", "a", 9)
        self.noted("v1", "a", 9)

    def test_noted_anew_without_a_write(self):
        house = self.house = House(5, ["t1"])
        house.run("s", "forget a", 7)
        house.supply(0, 0)
        self.assertEqual(house.run("s", "forget a", 8), ("pending", ["forget a"]))
        self.assertTrue(house.is_up())
        house.supply(-1, 0)
        self.noted("t1", "a", 8)

    def test_several_keys(self):
        house = House(5, ["t1", "t2"])
        for key, number in [("c", 3), ("a", 5), ("b", 8)]:
            house.run("s", f"forget {key}", number)
        self.assertEqual(house.confirmed("t3", 99), "none")
        self.assertEqual(house.confirmed("t1", 3), "none")
        self.assertEqual(house.confirmed("t1", 8), "ok")
        self.assertEqual([key for key, place in house.duties() if place == "t1"], ["b"])
        self.assertEqual([key for key, place in house.duties() if place == "t2"], ["a", "b", "c"])

    def test_restart_notes_anew(self):
        house = self.house = House(5, ["t1"])
        house.run("s", "forget a", 3)
        self.assertEqual(house.restart(20), ("clean", []))
        self.noted("t1", "a", 20)

    def test_refused_lines_note_nothing(self):
        house = self.house = House(5, ["t1"])
        house.run("s", 'do put a 1 1 1 ""', 1)
        house.run("s", "forget a", 2)
        house.run("s", 'do put a 1 1 1 ""', 3)
        house.run("s", "do hold a me", 4)
        self.assertEqual(house.run("s", "forget a", 5), ("held", []))
        self.assertEqual(house.run("S", "forget a", 6), ("bad", []))
        self.noted("t1", "a", 2)


class TestRemoveDuties(HouseCase):
    def test_remove_duties(self):
        for place, keys, answered in [("t1", [], "none"), ("t1", ["x"], "none"), ("v9", ["d"], "none"),
                                      ("t1", ["d"], "ok"), ("t1", ["e", "x", "d", "d"], "ok"), ("v1", ["e"], "ok")]:
            self.begin(PLACES)
            self.fill()
            given = list(keys)
            self.assertEqual(self.house.remove_duties(place, given), answered)
            self.assertEqual(self.plain.remove_duties(place, keys), answered)
            self.assertEqual(given, keys)
            self.check_is()
            self.check_blocks()

    def test_the_last_duty_takes_the_file(self):
        self.begin(["t1"])
        self.says(("s", "forget a", "pending"))
        before = House(5, []).blocks()
        self.assertNotEqual(self.house.blocks(), before)
        self.assertEqual(self.house.remove_duties("t1", ["a"]), "ok")
        self.assertEqual(self.house.blocks(), before)

    def test_nothing_is_written_where_there_is_nothing(self):
        self.begin(["t1"])
        self.says(("s", "forget a", "pending"))
        self.house.supply(0, 0)
        self.assertEqual(self.house.remove_duties("t1", ["b"]), "none")
        self.assertEqual(self.house.confirmed("t1", 1), "none")
        self.check_is()


class TestRestartOfAHouseThatIsUp(HouseCase):
    def test_sessions_end(self):
        self.begin(PLACES)
        self.fill()
        self.says(("s", "begin", "ok"), ("s", "do drop a", "gone"), ("t", "begin", "ok"))
        self.restart_both()
        self.says(("s", "commit", "none"), ("t", "abort", "none"), ("s", "do get a", '1 2 3 "red a"'),
                  ("s", "pinned q", "a"), ("s", "at x count", "3"), ("s", "out a", "0:b"),
                  ("s", "status d", "pending t1 t2 v1"))

    def test_without_power(self):
        self.begin(PLACES)
        self.fill()
        self.house.supply(0, 5)
        self.restart_both()
        self.assertEqual(self.house.run("s", "snap y", 99), ("lost", []))

    def test_many_times(self):
        self.begin([])
        for _ in range(3):
            self.restart_both()
        self.fill()
        for _ in range(3):
            self.restart_both()


class TestNothingToWrite(HouseCase):
    def test_with_the_power_off(self):
        self.begin(["t1"])
        self.fill()
        self.says(("s", "begin", "ok"))
        self.house.supply(0, 0)
        self.says(("t", "do get a", '1 2 3 "red a"'), ("t", "log", 'put a 1 2 3 "red a"; put b 0 0 0 "fox"; '
                                                                  'put c 5 5 2 ""; hold c me'),
                  ("s", "do drop a", "gone"), ("s", "abort", "ok"), ("s", "begin", "ok"), ("s", "commit", "done 0"),
                  ("t", "snap x", "twice"), ("t", "do drop none", "none"), ("t", "erase none", "erased"),
                  ("t", "forget d", "pending"), ("t", "status d", "pending t1"), ("t", "nothing", "bad"),
                  ("t", "forget c", "held"))
        self.check_blocks()
        self.assertEqual(self.house.run("s", "erase none", 80), ("erased", ["erase none"]))
        self.assertEqual(self.house.run("s", "do drop a", 81), ("lost", []))

    def test_an_answer_that_is_a_key(self):
        self.begin([])
        self.says(("s", 'do put lost 1 1 1 "red"', "new"), ("s", 'do put down 9 9 1 "fox"', "new"))
        self.says(("s", 'do ask "red"', "lost"), ("s", 'do ask "fox"', "down"), ("s", "do span l z", "lost"))


class TestSupply(HouseCase):
    def test_not_allowed(self):
        self.begin(["t1"])
        self.house.supply(3, 9)
        for writes, torn in [(-2, 0), (100001, 0), (0, -1), (0, 64), (-1, 64), (-1, -1), (-2, 64), (100001, -1)]:
            self.fails(NotAllowed, self.house.supply, writes, torn)
        self.says(("s", "do count", "0"))
        before = self.house.blocks()
        self.assertEqual(self.house.run("s", 'do put k 1 2 0 "x"', 9), ("lost", []))
        # Three writes were whole, and nine characters of the next one were written.
        changed = [k for k in range(len(before)) if self.house.blocks()[k] != before[k]]
        self.assertEqual(len(changed), 4)
        for writes, torn in [(-2, 0), (100001, 0), (0, -1), (0, 64)]:
            self.fails(NotAllowed, self.house.supply, writes, torn)
        for writes, torn in [(100000, 63), (0, 0), (-1, 63), (-1, 0)]:
            self.assertIsNone(self.house.supply(writes, torn))
        self.assertFalse(self.house.is_up())

    def test_a_supply_that_is_enough(self):
        self.begin(["t1"])
        self.house.supply(100000, 0)
        self.fill()


class TestDown(HouseCase):
    def test_each_method(self):
        self.begin(["t1"])
        self.fill()
        self.house.supply(2, 7)
        self.assertEqual(self.house.run("s", "forget a", 50), ("lost", []))
        before = self.house.blocks()
        for power in [None, (-1, 0)]:
            if power:
                self.house.supply(*power)
            self.assertIs(self.house.is_up(), False)
            for call, *args in [(self.house.run, "s", "log", 51), (self.house.run, "S", "nothing", 51),
                                (self.house.run, "s", "forget a", 51), (self.house.lasting,), (self.house.duties,),
                                (self.house.confirmed, "t1", 99), (self.house.confirmed, "t9", 99),
                                (self.house.remove_duties, "t1", ["d"]), (self.house.remove_duties, "t1", [])]:
                self.fails(Down, call, *args)
            self.assertEqual(self.house.blocks(), before)
        self.assertEqual(self.house.restart(60), ("not made", []))
        self.plain.restart(60)
        self.check_is()
        self.check_blocks()


class TestRandomRuns(HouseCase):
    def test_without_failures(self):
        choice = random.Random(71)
        seen = set()
        for _ in range(20):
            places = choice.sample(PLACES, choice.randrange(4))
            self.begin(places, choice.choice([0, 5, 999999]))
            hall = Hall(self.seed)
            for _ in range(100):
                turn = choice.randrange(12)
                if turn == 0:
                    args = choice.choice(PLACES), choice.randrange(self.number + 2)
                    self.assertEqual(self.house.confirmed(*args), self.plain.confirmed(*args))
                elif turn == 1:
                    args = choice.choice(PLACES), choice.choices(KEYS, k=2)
                    self.assertEqual(self.house.remove_duties(*args), self.plain.remove_duties(*args))
                elif turn == 2 and choice.randrange(4) == 0:
                    self.restart_both()
                else:
                    key = choice.choice(KEYS + ["e", "f", "g", "h"])
                    line = random_hall_line(choice, KEYS)
                    if turn < 6:
                        line = choice.choice([f"forget {key}", f"forget {key}", f"status {key}", "begin"])
                    answered, effects = self.run_both(choice.choice(["s", "t"]), line)
                    seen.add((line.split(" ")[0], answered.split(" ")[0]))
                    for effect in effects:
                        # A hall of its own erases what the house forgets.
                        hall.run("c", re.sub("^forget ", "erase ", effect))
                self.check_is()
            self.assertEqual(self.house.lasting(), lasting_files(hall))
            self.check_blocks()
        self.assertLessEqual({("forget", word) for word in ["pending", "forgotten", "held", "full"]}, seen)
        self.assertLessEqual({("status", word) for word in ["pending", "clear"]}, seen)


if __name__ == "__main__":
    unittest.main()
