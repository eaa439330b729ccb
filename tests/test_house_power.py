"""Houses whose power fails in each single write: points 7.2 to 7.4, 7.6 and 7.7."""

import random
import unittest

from lethe.errors import Down
from lethe.houses import House
from tests.plain import Case, commit_rows, cut_short, plain_rest, repair_rows
from tests.plain_hall import random_hall_line
from tests.plain_house import PlainHouse

CELLS = 192
SEED = 5
PLACES = ["t1", "v1"]
TORN = [0, 1, 31, 62, 63]

FIRST = ['do put a 1 2 3 "red a"', 'do put b 0 0 0 "fox"', "link a 0 b", "pin p count", "forget d"]
# What is told before the power is limited, the call whose commit is lost, and its effects.
RUNS = [
    (FIRST, ("run", "s", 'do put c 1 1 1 "x"'), ['do put c 1 1 1 "x"']),
    (FIRST, ("run", "s", "snap x"), ["snap x"]),
    (FIRST, ("run", "s", "forget a"), ["forget a"]),
    (FIRST, ("run", "s", "forget none"), ["forget none"]),
    (FIRST, ("run", "s", "erase b"), ["erase b"]),
    (FIRST + ["begin", "do drop b", 'do put c 9 9 1 ""', "do hold c me"], ("run", "s", "commit"),
     ["do drop b", 'do put c 9 9 1 ""', "do hold c me"]),
    (FIRST, ("confirmed", "t1", 9), []),
    (FIRST + ["forget e"], ("remove_duties", "v1", ["d", "x"]), []),
    ([], ("run", "s", "pin p count"), ["pin p count"]),
]


def told(lines):
    """Return a house and a plain one that were told lines, and the number of the last one."""
    house, plain = House(SEED, PLACES), PlainHouse(SEED, PLACES)
    for number, line in enumerate(lines, 1):
        assert house.run("s", line, number) == plain.run("s", line, number)
    return house, plain, len(lines)


def call(house, act, number):
    """Make a call; return its answer, without effects."""
    name, *args = act
    if name != "run":
        return getattr(house, name)(*args)
    answered, effects = house.run(*args, number)
    assert effects == [] or answered != "lost"
    return answered


def call_plain(plain, act, number):
    """Make a call of a plain house; return its answer, without effects."""
    name, *args = act
    if name != "run":
        return getattr(plain, name)(*args)
    return plain.run(*args, number)[0]


def changed_cells(lines, act):
    """Return the number N of changed cells of the commit of a call."""
    plain = told(lines)[1]
    old = plain.files()
    call_plain(plain, act, 50)
    return (len(commit_rows(SEED, CELLS, old, plain.files())) - 2) // 3


class PowerCase(Case):
    def check_down(self, house):
        self.assertIs(house.is_up(), False)
        for ask in [house.lasting, house.duties]:
            self.fails(Down, ask)
        self.fails(Down, house.run, "s", "log", 99)

    def check_up(self, house, plain):
        self.assertIs(house.is_up(), True)
        self.assertEqual(house.lasting(), plain.lasting())
        self.assertEqual(house.duties(), plain.duties())
        self.assertEqual(house.blocks(), plain_rest(SEED, CELLS, plain.files()))
        self.assertEqual(house.run("s", "commit", 999), ("none", []))


class TestEachWrite(PowerCase):
    def cut_commit(self, lines, act, whole, torn):
        """Let the power fail in a write of a commit; check the blocks; return what the test knows of it."""
        house, plain, number = told(lines)
        old = plain.files()
        house.supply(whole, torn)
        self.assertEqual(call(house, act, number + 1), "lost")
        after = told(lines)[1]
        self.assertNotEqual(call_plain(after, act, number + 1), "lost")
        after.hall.transactions = {}
        rows = commit_rows(SEED, CELLS, old, after.files())
        self.assertEqual(house.blocks(), cut_short(plain_rest(SEED, CELLS, old), rows, whole, torn))
        self.check_down(house)
        plain.hall.transactions = {}
        return house, plain, after, number

    def check_restart(self, house, before, after, taken, effects, number):
        house.supply(-1, 0)
        wanted = ("made", effects) if taken else ("not made", [])
        self.assertEqual(house.restart(number), wanted)
        self.check_up(house, after if taken else before)
        self.assertEqual(house.restart(number + 1), ("clean", []))

    def test_each_write_of_a_commit(self):
        for lines, act, effects in RUNS:
            n = changed_cells(lines, act)
            self.assertGreater(n, 0)
            for whole in range(3 * n + 2):
                torn = TORN[whole % 5]
                house, before, after, number = self.cut_commit(lines, act, whole, torn)
                self.check_restart(house, before, after, whole >= n + 1, effects, number + 2)

    def test_each_kind_of_torn_write(self):
        lines, act, effects = RUNS[2]
        n = changed_cells(lines, act)
        for whole in [0, n - 1, n, n + 1, 2 * n, 2 * n + 1, 2 * n + 2, 3 * n + 1]:
            for torn in TORN:
                house, before, after, number = self.cut_commit(lines, act, whole, torn)
                self.check_restart(house, before, after, whole >= n + 1, effects, number + 2)

    def test_enough_power(self):
        for lines, act, effects in RUNS:
            house, plain, number = told(lines)
            house.supply(3 * changed_cells(lines, act) + 2, 5)
            self.assertNotEqual(call(house, act, number + 1), "lost")
            call_plain(plain, act, number + 1)
            self.check_up(house, plain)
            self.assertEqual(house.run("s", "snap z", 99), ("lost", []))

    def test_each_write_of_the_mount_behind_it(self):
        for lines, act, effects in [RUNS[2], RUNS[5], RUNS[7]]:
            n = changed_cells(lines, act)
            for whole in [0, 1, n, n + 1, n + 2, 2 * n, 2 * n + 1, 2 * n + 2, 3 * n + 1]:
                for torn in [0, 63]:
                    house, before, after, number = self.cut_commit(lines, act, whole, torn)
                    self.fail_mounts(house, number)
                    self.check_restart(house, before, after, whole >= n + 1, effects, number + 2)

    def fail_mounts(self, house, number):
        """Let mounts fail in one write after the other."""
        for write in range(8):
            blocks = house.blocks()
            rows = repair_rows(CELLS, blocks)
            if write >= len(rows):
                break
            house.supply(write, TORN[write % 5])
            self.assertEqual(house.restart(number + 50), ("down", []))
            self.assertEqual(house.blocks(), cut_short(blocks, rows, write, TORN[write % 5]))
            self.check_down(house)

    def test_down_as_long_as_the_power_is_off(self):
        lines, act, effects = RUNS[0]
        n = changed_cells(lines, act)
        house, before, after, number = self.cut_commit(lines, act, n + 1, 0)
        blocks = house.blocks()
        for _ in range(3):
            self.assertEqual(house.restart(number + 2), ("down", []))
            self.check_down(house)
            self.assertEqual(house.blocks(), blocks)
        house.supply(0, 0)
        self.assertEqual(house.restart(number + 2), ("down", []))
        self.check_restart(house, before, after, True, effects, number + 3)

    def test_a_mount_that_has_nothing_to_write_with_the_power_off(self):
        house, plain, number = told(RUNS[0][0])
        house.supply(0, 0)
        self.assertEqual(call(house, RUNS[0][1], number + 1), "lost")
        # The first write was torn before its first character: the disk is as it was.
        self.assertEqual(house.restart(number + 2), ("not made", []))
        self.check_up(house, plain)
        self.assertEqual(call(house, RUNS[0][1], number + 3), "lost")
        self.assertEqual(house.restart(number + 4), ("not made", []))
        self.check_up(house, plain)

    def test_the_last_write_of_a_commit(self):
        lines, act, effects = RUNS[0]
        n = changed_cells(lines, act)
        house, before, after, number = self.cut_commit(lines, act, 3 * n + 1, 63)
        # One journal block has its last character left over.
        house.supply(1, 0)
        self.assertEqual(house.restart(number + 2), ("made", effects))
        self.check_up(house, after)


class TestEffects(PowerCase):
    def test_an_earlier_loss_is_not_told_again(self):
        house, _, _ = told(FIRST)
        house.supply(changed_cells(FIRST, ("run", "s", "snap x")) + 1, 0)
        self.assertEqual(house.run("s", "snap x", 50), ("lost", []))
        house.supply(-1, 0)
        self.assertEqual(house.restart(51), ("made", ["snap x"]))
        house.supply(0, 0)
        self.assertEqual(house.run("s", "snap y", 52), ("lost", []))
        house.supply(-1, 0)
        self.assertEqual(house.restart(53), ("not made", []))
        self.assertEqual(house.restart(54), ("clean", []))
        house.supply(changed_cells(FIRST + ["snap x"], ("confirmed", "t1", 99)) + 1, 0)
        self.assertEqual(house.confirmed("t1", 99), "lost")
        house.supply(-1, 0)
        self.assertEqual(house.restart(55), ("made", []))
        self.assertEqual(house.duties(), [("d", "v1")])

    def test_returned_effects_may_be_changed(self):
        house, _, _ = told(FIRST)
        house.supply(changed_cells(FIRST, ("run", "s", "snap x")) + 1, 0)
        self.assertEqual(house.run("s", "snap x", 50), ("lost", []))
        house.supply(-1, 0)
        house.restart(51)[1].append("x")
        self.assertEqual(house.restart(52), ("clean", []))

    def test_duties_are_noted_at_the_restart_that_made_them(self):
        n = changed_cells(FIRST, ("run", "s", "forget b"))
        house, _, number = told(FIRST)
        house.supply(n + 1, 0)
        self.assertEqual(house.run("s", "forget b", 20), ("lost", []))
        house.supply(-1, 0)
        self.assertEqual(house.restart(30), ("made", ["forget b"]))
        self.assertEqual(house.confirmed("t1", 30), "none")
        self.assertEqual(house.confirmed("t1", 31), "ok")
        self.assertEqual(house.duties(), [("b", "v1"), ("d", "v1")])


class TestRandomFailures(PowerCase):
    def test_random_failures(self):
        choice = random.Random(74)
        seen = {"made": 0, "not made": 0, "clean": 0, "down": 0}
        for _ in range(60):
            house, plain, number, effects = House(SEED, PLACES), PlainHouse(SEED, PLACES), 0, []
            for _ in range(40):
                number += 1
                line = choice.choice([random_hall_line(choice, ["a", "b", "c"])] * 4 + ["forget a", "forget b"])
                house.supply(choice.choice([-1, choice.randrange(25)]), choice.randrange(64))
                session = choice.choice(["s", "t"])
                answered, told_effects = house.run(session, line, number)
                if house.is_up():
                    self.assertEqual((answered, told_effects), plain.run(session, line, number))
                    effects += told_effects
                else:
                    self.assertEqual((answered, told_effects), ("lost", []))
                if not house.is_up() or choice.randrange(8) == 0:
                    number, found = self.revive(choice, house, number, seen)
                    effects += found
                    plain = self.plain_told(effects)
                    self.check_up(house, plain)
        self.assertGreater(min(seen.values()), 25)

    def revive(self, choice, house, number, seen):
        """Restart a house until it is up; return the number and the effects."""
        while True:
            number += 1
            house.supply(choice.choice([-1, choice.randrange(6), choice.randrange(6)]), choice.randrange(64))
            answered, effects = house.restart(number)
            seen[answered] += 1
            if answered != "down":
                return number, effects
            self.check_down(house)

    def plain_told(self, effects):
        plain = PlainHouse(SEED, PLACES)
        for effect in effects:
            plain.run("c", effect, 1)
        return plain


if __name__ == "__main__":
    unittest.main()
