"""Commits: points 3.7 and 3.8."""

import random
import unittest

from lethe.blocks import Medium
from lethe.disk import Disk
from lethe.errors import Down, Full, Missing, NotAllowed
from tests.plain import Case, commit_rows, cut_short, plain_rest

OLD = {"a": "1" * 50, "b": "", "map": "0;"}
CHANGES = {"a": "2", "b": None, "log": "x" * 41, "none": None}
NEW = {"a": "2", "map": "0;", "log": "x" * 41}
SEED = 7
CELLS = 6


def disk_with(files, seed=SEED, cells=CELLS):
    disk = Disk(seed, cells)
    disk.commit(files)
    return disk


class DiskCase(Case):
    def check_rests(self, disk, files, seed=SEED, cells=CELLS):
        self.assertEqual(disk.files(), files)
        self.assertEqual(disk.medium().blocks(), plain_rest(seed, cells, files))
        for name in files:
            self.assertEqual(disk.data_of(name), files[name])

    def check_lost(self, disk):
        """Check that each method raises Down before it checks anything else."""
        self.fails(Down, disk.files)
        for name in ["a", "none", ""]:
            self.fails(Down, disk.data_of, name)
        for changes in [{}, {"": ""}, {"a": "d" * 4001}, {"a": "d" * 4000}, {"a": "1"}]:
            self.fails(Down, disk.commit, changes)


class TestDisk(DiskCase):
    def test_example(self):
        disk = Disk(7, 4)
        self.assertEqual(disk.commit({"a": "12", "b": ""}), 2)
        self.assertEqual(disk.medium().writes(), 8)
        disk.medium().supply(2, 5)
        self.fails(Down, disk.commit, {"a": "3", "b": "4"})

    def test_new_disks(self):
        for cells in [1, 2, 192, 352, 400]:
            disk = Disk(3, cells)
            self.assertIsInstance(disk.medium(), Medium)
            self.assertIs(disk.medium(), disk.medium())
            self.assertEqual(disk.medium().size(), 1 + 2 * cells)
            self.assertEqual(disk.medium().writes(), 0)
            self.check_rests(disk, {}, 3, cells)
        for cells in [0, -1, 401, 801]:
            self.fails(NotAllowed, Disk, 3, cells)

    def test_two_disks_have_two_media(self):
        first, second = Disk(3, 2), Disk(3, 2)
        first.commit({"a": ""})
        self.check_rests(second, {}, 3, 2)

    def test_missing_files(self):
        disk = disk_with(OLD)
        for name in ["none", "", "A", "a/000"]:
            self.fails(Missing, disk.data_of, name)
        self.check_rests(disk, OLD)

    def test_long_history_against_a_dict(self):
        choice = random.Random(17)
        disk = Disk(SEED, 12)
        files = {}
        for _ in range(200):
            changes = {}
            for name in choice.sample(["a", "b", "c", "map", "tkr88", "yvuuj"], choice.randrange(4)):
                changes[name] = choice.choice([None, "", "x", "y" * 40, "z" * 41, "0;"])
            given = dict(changes)
            new = {name: data for name, data in {**files, **changes}.items() if data is not None}
            rows = commit_rows(SEED, 12, files, new)
            writes = disk.medium().writes()
            count = disk.commit(changes)
            self.assertEqual(changes, given)
            self.assertEqual(count, max(0, (len(rows) - 2) // 3))
            self.assertEqual(disk.medium().writes() - writes, len(rows))
            files = new
            self.check_rests(disk, files, SEED, 12)

    def test_dicts_are_not_kept(self):
        changes = {"a": "1"}
        disk = disk_with(changes)
        changes["a"] = "2"
        changes["b"] = ""
        disk.files()["c"] = ""
        disk.files().clear()
        self.check_rests(disk, {"a": "1"})

    def test_nothing_to_write(self):
        disk = disk_with(OLD)
        writes = disk.medium().writes()
        disk.medium().supply(0, 5)
        for changes in [{}, {"none": None}, {"b": ""}, {"map": "0;", "a": "1" * 50, "x": None}]:
            self.assertEqual(disk.commit(changes), 0)
        self.assertEqual(disk.medium().writes(), writes)
        self.fails(Down, disk.medium().write, 0, "x" * 64)
        blocks = disk.medium().blocks()
        for changes in [{}, {"none": None}, {"b": ""}]:
            self.assertEqual(disk.commit(changes), 0)
        self.assertEqual(disk.files(), OLD)
        self.assertEqual(disk.medium().blocks(), blocks)

    def test_not_allowed(self):
        disk = disk_with(OLD)
        writes = disk.medium().writes()
        disk.medium().supply(0, 0)
        for changes in [{"": ""}, {"A": None}, {"a" * 13: None}, {"": None}, {"a": "d" * 4001},
                        {"a": "new", "a b": "x"}, {"a": "new", "b": "d" * 5000}, {"f": "d" * 4000, "A": None},
                        {"A": "", "f": "d" * 4000}]:
            given = dict(changes)
            self.fails(NotAllowed, disk.commit, changes)
            self.assertEqual(changes, given)
        self.assertIs(disk.medium().is_down(), False)
        self.assertEqual(disk.medium().writes(), writes)
        self.check_rests(disk, OLD)

    def test_full(self):
        disk = disk_with(OLD)
        writes = disk.medium().writes()
        disk.medium().supply(0, 0)
        for changes in [{"f": "d" * 81}, {"f": "", "g": "", "h": ""}, {"b": None, "f": "d" * 121}]:
            self.fails(Full, disk.commit, changes)
        self.assertIs(disk.medium().is_down(), False)
        self.assertEqual(disk.medium().writes(), writes)
        self.check_rests(disk, OLD)
        disk.medium().supply(-1, 0)
        disk.commit({"b": None, "f": "d" * 120})
        self.check_rests(disk, {"a": "1" * 50, "map": "0;", "f": "d" * 120})

    def test_not_allowed_goes_before_full_and_down(self):
        disk = disk_with(OLD)
        disk.medium().supply(0, 0)
        self.fails(Down, disk.medium().write, 0, " " * 64)
        self.fails(NotAllowed, disk.commit, {"f": "d" * 400, "": ""})
        self.fails(Full, disk.commit, {"f": "d" * 400})
        self.assertEqual(disk.files(), OLD)
        self.fails(Down, disk.commit, {"f": ""})
        self.check_lost(disk)


class TestWrites(DiskCase):
    def blocks_after_each_write(self, old, changes):
        """Return the blocks after 0, 1, 2 .. whole writes of a commit."""
        stages = []
        while True:
            disk = disk_with(old)
            disk.medium().supply(len(stages), 0)
            try:
                disk.commit(changes)
            except Down:
                stages.append(disk.medium().blocks())
            else:
                return stages

    def test_the_writes_one_by_one(self):
        for old, changes, new in [(OLD, CHANGES, NEW), ({}, OLD, OLD), (OLD, dict.fromkeys(OLD), {}),
                                  ({"a": "1"}, {"a": "2"}, {"a": "2"})]:
            rows = commit_rows(SEED, CELLS, old, new)
            before = plain_rest(SEED, CELLS, old)
            expected = [cut_short(before, rows, whole, 0) for whole in range(len(rows))]
            self.assertEqual(self.blocks_after_each_write(old, changes), expected)

    def test_entries_by_hand(self):
        disk = disk_with({"a": "1"}, 3, 1)
        block = "01a00001" + "2" + " " * 55
        disk.medium().supply(1, 0)
        self.fails(Down, disk.commit, {"a": "2"})
        self.assertEqual(disk.medium().blocks()[2], block)
        disk = disk_with({"a": "1"}, 3, 1)
        disk.medium().supply(2, 0)
        self.fails(Down, disk.commit, {"a": None})
        self.assertEqual(disk.medium().blocks()[2], "f" + " " * 63)
        self.assertEqual(disk.medium().blocks()[0], " " * 63 + "1")
        self.assertEqual(disk.medium().blocks()[1], "01a00001" + "1" + " " * 55)

    def test_the_power_fails_in_every_write(self):
        for old, changes, new in [(OLD, CHANGES, NEW), (OLD, dict.fromkeys(OLD), {}), ({}, OLD, OLD)]:
            rows = commit_rows(SEED, CELLS, old, new)
            before = plain_rest(SEED, CELLS, old)
            for whole in range(len(rows)):
                for torn in [0, 1, 63]:
                    disk = disk_with(old)
                    writes = disk.medium().writes()
                    disk.medium().supply(whole, torn)
                    self.fails(Down, disk.commit, changes)
                    blocks = cut_short(before, rows, whole, torn)
                    self.assertEqual(disk.medium().blocks(), blocks)
                    self.assertEqual(disk.medium().writes() - writes, whole)
                    self.assertIs(disk.medium().is_down(), True)
                    self.check_lost(disk)
                    disk.medium().supply(-1, 0)
                    self.check_lost(disk)
                    self.assertEqual(disk.medium().blocks(), blocks)

    def test_just_enough_power(self):
        rows = commit_rows(SEED, CELLS, OLD, NEW)
        disk = disk_with(OLD)
        disk.medium().supply(len(rows), 9)
        self.assertEqual(disk.commit(CHANGES), (len(rows) - 2) // 3)
        self.assertIs(disk.medium().is_down(), False)
        self.check_rests(disk, NEW)
        self.fails(Down, disk.commit, {"a": "3"})
        self.check_lost(disk)

    def test_power_that_is_off_before(self):
        disk = disk_with(OLD)
        disk.medium().supply(0, 0)
        self.fails(Down, disk.medium().write, 1, "x" * 64)
        self.assertEqual(disk.commit({}), 0)
        self.assertEqual(disk.files(), OLD)
        blocks = disk.medium().blocks()
        self.fails(Down, disk.commit, CHANGES)
        self.check_lost(disk)
        self.assertEqual(disk.medium().blocks(), blocks)

    def test_changed_cells_are_those_of_the_disk_object(self):
        disk = disk_with(OLD)
        disk.medium().write(1, "x" * 64)
        writes = disk.medium().writes()
        self.assertEqual(disk.commit({}), 0)
        self.assertEqual(disk.commit({"a": "1" * 50}), 0)
        self.assertEqual(disk.medium().writes(), writes)


if __name__ == "__main__":
    unittest.main()
