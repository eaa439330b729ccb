"""The disk of a place that is up or down: points 7.2 to 7.4, 8.6 and 9.4."""

import unittest

from lethe.disk import changes_between
from lethe.drives import Drive
from lethe.errors import Down, Full
from tests.plain import Case, commit_rows, plain_rest

FIRST = {"a": "1", "b": "2"}
SECOND = {"b": "3", "c": ""}


class TestChangesBetween(unittest.TestCase):
    def test_changes(self):
        for old, new, changes in [({}, {}, {}), (FIRST, FIRST, {}), ({}, FIRST, FIRST),
                                  (FIRST, {}, {"a": None, "b": None}),
                                  (FIRST, SECOND, {"a": None, "b": "3", "c": ""}), ({"a": ""}, {"a": "1"}, {"a": "1"})]:
            before = dict(old), dict(new)
            self.assertEqual(changes_between(old, new), changes)
            self.assertEqual((old, new), before)


class TestDrive(Case):
    def test_replace_files(self):
        drive = Drive(5, 8)
        self.assertEqual((drive.is_up(), drive.files()), (True, {}))
        for files in [FIRST, SECOND, SECOND, {}, FIRST]:
            self.assertIs(drive.replace_files(files), True)
            self.assertEqual(drive.files(), files)
            self.assertEqual(drive.medium().blocks(), plain_rest(5, 8, files))
        self.assertEqual(drive.restart(), "clean")
        self.assertEqual(drive.files(), FIRST)

    def test_nothing_to_write(self):
        drive = Drive(5, 8)
        drive.replace_files(FIRST)
        drive.medium().supply(0, 0)
        self.assertIs(drive.replace_files(FIRST), True)
        self.assertEqual(drive.restart(), "clean")

    def test_full(self):
        drive = Drive(5, 2)
        drive.replace_files(FIRST)
        self.fails(Full, drive.replace_files, {"a": "", "b": "", "c": ""})
        self.assertEqual((drive.is_up(), drive.files()), (True, FIRST))

    def test_each_write(self):
        rows = commit_rows(5, 8, FIRST, SECOND)
        n = (len(rows) - 2) // 3
        for whole in range(len(rows)):
            drive = Drive(5, 8)
            drive.replace_files(FIRST)
            drive.medium().supply(whole, 40)
            files = dict(SECOND)
            self.assertIs(drive.replace_files(files), False)
            files.clear()
            self.assertIs(drive.is_up(), False)
            for call, *args in [(drive.files,), (drive.check_up,), (drive.replace_files, FIRST)]:
                self.fails(Down, call, *args)
            drive.medium().supply(-1, 0)
            self.assertEqual(drive.restart(), "made" if whole >= n + 1 else "not made")
            self.assertEqual(drive.files(), SECOND if whole >= n + 1 else FIRST)
            self.assertEqual(drive.restart(), "clean")

    def test_a_restart_that_fails_while_it_is_up(self):
        drive = Drive(5, 8)
        drive.replace_files(FIRST)
        # Somebody else writes into the journal, so that the mount has something to write.
        drive.medium().write(9, "x" * 64)
        drive.medium().supply(0, 0)
        self.assertEqual(drive.restart(), "down")
        self.assertIs(drive.is_up(), False)
        drive.medium().supply(-1, 0)
        self.assertEqual(drive.restart(), "clean")
        self.assertEqual(drive.files(), FIRST)

    def test_shut(self):
        drive = Drive(5, 8)
        drive.replace_files(FIRST)
        drive.shut()
        self.assertIs(drive.is_up(), False)
        self.fails(Down, drive.files)
        self.assertEqual(drive.restart(), "clean")
        self.assertEqual(drive.files(), FIRST)


if __name__ == "__main__":
    unittest.main()
