"""Repair: points 3.9 to 3.11."""

import random
import unittest

from lethe.blocks import Medium
from lethe.disk import Disk
from lethe.errors import BadForm, Down, NotAllowed
from lethe.repair import mount, repair
from tests.plain import Case, commit_rows, cut_short, plain_files, plain_rest, repair_rows

BLANK = " " * 64
MARK = " " * 63 + "1"
FREED = "f" + " " * 63
SEED = 7
CELLS = 6
OLD = {"a": "1" * 50, "b": "", "map": "0;"}
CHANGES = {"a": "2", "b": None, "log": "x" * 41}
NEW = {"a": "2", "map": "0;", "log": "x" * 41}


def medium_with(blocks):
    medium = Medium(len(blocks))
    for index, block in enumerate(blocks):
        medium.write(index, block)
    return medium


def stages(old, new):
    """Return the number of whole writes and the blocks for each way in which the power fails in a commit."""
    rows = commit_rows(SEED, CELLS, old, new)
    before = plain_rest(SEED, CELLS, old)
    return [(whole, cut_short(before, rows, whole, torn)) for whole in range(len(rows)) for torn in (0, 1, 63)]


class TestExamples(Case):
    def test_an_empty_disk(self):
        disk = Disk(7, 4)
        self.assertEqual(mount(7, 4, disk.medium()).files(), {})

    def lost_disk(self, writes, torn):
        disk = Disk(7, 4)
        disk.commit({"a": "12", "b": ""})
        disk.medium().supply(writes, torn)
        self.fails(Down, disk.commit, {"a": "3", "b": "4"})
        disk.medium().supply(-1, 0)
        return disk

    def test_not_taken_effect(self):
        disk = self.lost_disk(2, 5)
        before = disk.medium().writes()
        self.assertEqual(mount(7, 4, disk.medium()).files(), {"a": "12", "b": ""})
        self.assertEqual(disk.medium().writes() - before, 2)

    def test_taken_effect(self):
        disk = self.lost_disk(3, 0)
        self.assertEqual(mount(7, 4, disk.medium()).files(), {"a": "3", "b": "4"})


class TestRepair(Case):
    def test_nothing_to_write(self):
        for files in [{}, OLD]:
            medium = medium_with(plain_rest(SEED, CELLS, files))
            medium.supply(0, 0)
            self.assertEqual(repair(CELLS, medium), 0)
            self.fails(Down, medium.write, 0, BLANK)
            self.assertEqual(repair(CELLS, medium), 0)
            self.assertEqual(mount(SEED, CELLS, medium).files(), files)

    def test_wrong_sizes(self):
        for cells in [0, 1, 5, 7, -1, 13, 401]:
            medium = medium_with([MARK] + ["x" * 64] * 12)
            before = medium.blocks()
            self.fails(NotAllowed, repair, cells, medium)
            self.fails(NotAllowed, mount, SEED, cells, medium)
            self.assertEqual(medium.blocks(), before)

    def test_cells_out_of_range(self):
        self.fails(NotAllowed, mount, SEED, 0, Medium(1))
        self.fails(NotAllowed, mount, SEED, 401, Medium(801))
        medium = medium_with([MARK])
        self.fails(NotAllowed, mount, SEED, 0, medium)
        self.assertEqual(medium.blocks(), [MARK])
        self.assertEqual(mount(SEED, 400, Medium(801)).files(), {})

    def test_wrong_sizes_go_before_down(self):
        medium = medium_with([MARK] + ["x" * 64] * 12)
        medium.supply(0, 0)
        self.fails(Down, medium.write, 0, MARK)
        self.fails(NotAllowed, repair, 5, medium)
        self.fails(NotAllowed, mount, SEED, 0, medium)
        self.fails(Down, repair, 6, medium)
        self.fails(Down, mount, SEED, 6, medium)

    def some_media(self):
        """Return blocks as no commit leaves them, too."""
        choice = random.Random(18)
        texts = [BLANK, BLANK, FREED, "x" * 64, "f" + " " * 62 + "f", " " * 63 + "f", "f" * 64, "1" * 64]
        for header in [BLANK, MARK, "1" * 64, "x" * 63 + "1", "1" + " " * 63, " " * 62 + "1 ", "x" * 64, FREED]:
            for _ in range(12):
                yield [header] + [choice.choice(texts) for _ in range(2 * CELLS)]

    def test_the_writes_one_by_one(self):
        for blocks in self.some_media():
            rows = repair_rows(CELLS, blocks)
            medium = medium_with(blocks)
            before = medium.writes()
            self.assertEqual(repair(CELLS, medium), len(rows))
            self.assertEqual(medium.writes() - before, len(rows))
            self.assertEqual(medium.blocks(), cut_short(blocks, rows, len(rows), 0))
            self.assertEqual(repair(CELLS, medium), 0)
            for whole in range(len(rows)):
                for torn in [0, 1, 63]:
                    medium = medium_with(blocks)
                    before = medium.writes()
                    medium.supply(whole, torn)
                    self.fails(Down, repair, CELLS, medium)
                    self.assertEqual(medium.blocks(), cut_short(blocks, rows, whole, torn))
                    self.assertEqual(medium.writes() - before, whole)
                    self.assertIs(medium.is_down(), True)
                    self.check_off(medium)

    def check_off(self, medium):
        """Check that a repair without power fails if it has to write, and only then."""
        before = medium.blocks()
        if repair_rows(CELLS, before):
            self.fails(Down, repair, CELLS, medium)
        else:
            self.assertEqual(repair(CELLS, medium), 0)
        self.assertEqual(medium.blocks(), before)

    def test_equal_blocks_are_written_too(self):
        blocks = plain_rest(SEED, CELLS, OLD)
        marked = [MARK] + blocks[1:CELLS + 1] + blocks[1:CELLS + 1]
        medium = medium_with(marked)
        filled = len([block for block in blocks[1:CELLS + 1] if block != BLANK])
        self.assertEqual(repair(CELLS, medium), 2 * filled + 1)
        self.assertEqual(medium.blocks(), blocks)

    def test_a_medium_of_one_block(self):
        medium = medium_with([MARK])
        self.assertEqual(repair(0, medium), 1)
        self.assertEqual(medium.blocks(), [BLANK])


class TestMount(Case):
    def test_after_every_failure_in_a_commit(self):
        for old, new in [(OLD, NEW), (OLD, {}), ({}, OLD), ({"a": "1"}, {"a": "2"})]:
            count = (len(commit_rows(SEED, CELLS, old, new)) - 2) // 3
            for whole, blocks in stages(old, new):
                medium = medium_with(blocks)
                files = new if whole >= count + 1 else old
                rows = repair_rows(CELLS, blocks)
                before = medium.writes()
                disk = mount(SEED, CELLS, medium)
                self.assertEqual(medium.writes() - before, len(rows))
                self.assertIs(disk.medium(), medium)
                self.assertEqual(disk.files(), files)
                self.assertEqual(medium.blocks(), plain_rest(SEED, CELLS, files))

    def test_after_every_failure_in_a_repair(self):
        count = (len(commit_rows(SEED, CELLS, OLD, NEW)) - 2) // 3
        for whole, blocks in stages(OLD, NEW):
            files = NEW if whole >= count + 1 else OLD
            for cut in range(len(repair_rows(CELLS, blocks))):
                for torn in [0, 1, 63]:
                    medium = medium_with(blocks)
                    medium.supply(cut, torn)
                    self.fails(Down, mount, SEED, CELLS, medium)
                    medium.supply(-1, 0)
                    self.assertEqual(mount(SEED, CELLS, medium).files(), files)
                    self.assertEqual(medium.blocks(), plain_rest(SEED, CELLS, files))

    def test_a_repair_is_cut_again_and_again(self):
        choice = random.Random(19)
        count = (len(commit_rows(SEED, CELLS, OLD, NEW)) - 2) // 3
        for whole, blocks in stages(OLD, NEW):
            medium = medium_with(blocks)
            for _ in range(30):
                rows = repair_rows(CELLS, medium.blocks())
                if not rows:
                    break
                cut, torn = choice.randrange(min(3, len(rows))), choice.randrange(64)
                medium.supply(cut, torn)
                before = medium.blocks()
                self.fails(Down, repair, CELLS, medium)
                self.assertEqual(medium.blocks(), cut_short(before, rows, cut, torn))
            medium.supply(-1, 0)
            files = NEW if whole >= count + 1 else OLD
            self.assertEqual(mount(SEED, CELLS, medium).files(), files)
            self.assertEqual(medium.blocks(), plain_rest(SEED, CELLS, files))

    def test_a_mounted_disk_goes_on(self):
        disk = Disk(SEED, CELLS)
        disk.commit(OLD)
        disk.medium().supply(3, 1)
        self.fails(Down, disk.commit, CHANGES)
        disk.medium().supply(-1, 0)
        mounted = mount(SEED, CELLS, disk.medium())
        mounted.files().clear()
        self.assertEqual(mounted.data_of("a"), "1" * 50)
        self.fails(Down, disk.files)
        mounted.commit(CHANGES)
        self.assertEqual(mounted.files(), NEW)
        self.assertEqual(disk.medium().blocks(), plain_rest(SEED, CELLS, NEW))
        again = mount(SEED, CELLS, mounted.medium())
        self.assertEqual(again.files(), NEW)
        mounted.medium().supply(0, 0)
        self.fails(Down, again.commit, {"a": ""})
        self.fails(Down, again.files)
        self.assertEqual(mounted.files(), NEW)

    def test_a_long_history(self):
        choice = random.Random(20)
        for seed in range(25):
            disk = Disk(seed, 12)
            files = {}
            for _ in range(25):
                changes = {}
                for name in choice.sample(["a", "b", "c", "map", "tkr88", "yvuuj"], 3):
                    changes[name] = choice.choice([None, "", "x", "y" * 40, "z" * 41])
                new = {name: data for name, data in {**files, **changes}.items() if data is not None}
                count = (len(commit_rows(seed, 12, files, new)) - 2) // 3
                medium = disk.medium()
                before = medium.writes()
                medium.supply(choice.randrange(25), choice.randrange(64))
                try:
                    disk.commit(changes)
                    files = new
                except Down:
                    files = new if medium.writes() - before >= count + 1 else files
                    disk = self.mounted(seed, medium, choice)
                self.assertEqual(disk.files(), files)
                self.assertEqual(medium.blocks(), plain_rest(seed, 12, files))

    def mounted(self, seed, medium, choice):
        while True:
            try:
                return mount(seed, 12, medium)
            except Down:
                medium.supply(choice.randrange(30), choice.randrange(64))


class TestBadMedia(Case):
    def check_mount(self, blocks, seed=SEED):
        """Check what a mount does with blocks that perhaps no commit left."""
        medium = medium_with(blocks)
        rows = repair_rows(CELLS, blocks)
        repaired = cut_short(blocks, rows, len(rows), 0)
        files = plain_files(seed, CELLS, repaired)
        before = medium.writes()
        if files is None:
            self.fails(BadForm, mount, seed, CELLS, medium)
        else:
            self.assertEqual(mount(seed, CELLS, medium).files(), files)
        self.assertEqual(medium.blocks(), repaired)
        self.assertEqual(medium.writes() - before, len(rows))
        return files is not None

    def test_each_character_changed(self):
        rest = plain_rest(SEED, CELLS, OLD)
        good = 0
        for index in range(len(rest)):
            for at in list(range(12)) + [40, 62, 63]:
                for sign in "01fx":
                    near = list(rest)
                    near[index] = near[index][:at] + sign + near[index][at + 1:]
                    good += self.check_mount(near)
        self.assertGreater(good, 100)

    def test_blocks_exchanged_doubled_and_blank(self):
        rest = plain_rest(SEED, CELLS, OLD)
        for blocks in [rest, [MARK] + rest[1:]]:
            for first in range(len(blocks)):
                for second in range(len(blocks)):
                    near = list(blocks)
                    near[second] = blocks[first]
                    self.check_mount(near)
                    near[first] = blocks[second]
                    self.check_mount(near)
                near = list(blocks)
                near[first] = BLANK
                self.check_mount(near)

    def test_journal_entries(self):
        rest = plain_rest(SEED, CELLS, OLD)
        new = plain_rest(SEED, CELLS, NEW)
        good = 0
        for header in [BLANK, MARK]:
            for at in range(1, CELLS + 1):
                for entry in [FREED, "f" * 64, "x" * 64] + rest[1:CELLS + 1] + new[1:CELLS + 1]:
                    near = [header] + rest[1:]
                    near[CELLS + at] = entry
                    good += self.check_mount(near)
        self.assertGreater(good, 50)

    def test_entries_of_other_cells(self):
        rows = commit_rows(SEED, CELLS, OLD, NEW)
        count = (len(rows) - 2) // 3
        blocks = cut_short(plain_rest(SEED, CELLS, OLD), rows, count + 1, 0)
        self.assertIs(self.check_mount(blocks), True)
        turned = blocks[:CELLS + 1] + blocks[CELLS + 2:] + [blocks[CELLS + 1]]
        self.assertIs(self.check_mount(turned), False)

    def test_another_seed(self):
        rest = plain_rest(SEED, CELLS, OLD)
        self.assertIs(self.check_mount(rest, SEED + 1), False)


if __name__ == "__main__":
    unittest.main()
