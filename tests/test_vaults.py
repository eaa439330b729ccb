"""Vaults: points 9.3 to 9.6 and 3.12."""

import random
import unittest

from lethe import vaults as module
from lethe.cut import cut
from lethe.errors import Down, Missing, NotAllowed
from lethe.lasting import lasting_files
from lethe.vaults import Vault
from tests.plain import Case, commit_rows, cut_short, plain_rest, repair_rows
from tests.plain_hall import random_hall_line
from tests.test_revive import FILLED, KEYS, hall_told

CELLS = 352
SEED = 5
EMPTY = {"map": "0;"}
FILES = lasting_files(hall_told(SEED, FILLED))
OTHERS = lasting_files(hall_told(SEED, ['do put a 1 1 1 "x"', "snap s", 'do put b 1 1 1 "x"', "pin p get a",
                                        "do drop a"]))
# About as much as a hall can have.
MOST = ([f'do put {k}zzz 9{k} 9{k} {k % 4} "a b c d e f g {k}"' for k in range(8)]
        + [f"do hold {k}zzz {h}zzz" for k in range(8) for h in "ab"]
        + [f"link {a}zzz {kind} {b}zzz" for a in range(3) for kind in range(4) for b in range(2)]
        + ["snap aaaa", "snap bbbb"]
        + [f'pin {name} ask "a+b+c+d+e | a+b+c+d | a+b+c+d+f|e*"' for name in ["cccc", "dddd", "eeee"]])
BAD_NAMES = ["", "abc", "abcd", "A", "a-", "-", "a ", " ", "a/", "Ab", "a.", '"a"']


def on_disk(kept):
    """Return the files on the disk of a vault from a dict of generations."""
    return {f"{name}-{own}": data for name, files in kept.items() for own, data in files.items()}


def cut_all(kept, keys):
    """Return the generations without the keys."""
    left = {name: dict(files) for name, files in kept.items()}
    for name in left:
        for key in keys:
            left[name] = cut(SEED, left[name], key)
    return left


class VaultCase(Case):
    """A vault and a plain dict of its generations."""

    def begin(self, **kept):
        self.vault, self.kept = Vault(SEED), {}
        for name in kept:
            self.keep(name, kept[name])

    def keep(self, name, files, answered="ok"):
        before = dict(files)
        self.assertEqual(self.vault.keep(name, files), answered)
        self.assertEqual(files, before)
        if answered == "ok":
            self.kept[name] = before
        self.check_is()

    def discard(self, name, answered="ok"):
        self.assertEqual(self.vault.discard(name), answered)
        if answered == "ok":
            del self.kept[name]
        self.check_is()

    def cut_keys(self, *keys):
        given = list(keys)
        self.assertEqual(self.vault.cut_keys(given), "ok")
        self.assertEqual(given, list(keys))
        self.kept = cut_all(self.kept, keys)
        self.check_is()

    def check_is(self):
        self.assertIs(self.vault.is_up(), True)
        self.assertEqual(self.vault.generations(), sorted(self.kept))
        for name in self.kept:
            self.assertEqual(self.vault.files_of(name), self.kept[name])
        for name in {*BAD_NAMES, "zz", "g-map"} - {*self.kept}:
            self.fails(Missing, self.vault.files_of, name)

    def check_blocks(self):
        self.assertEqual(self.vault.blocks(), plain_rest(SEED, CELLS, on_disk(self.kept)))


class TestVault(VaultCase):
    def test_new(self):
        self.assertEqual(module.MAX_GENERATIONS, 2)
        for seed in [0, 5, 999999]:
            vault = Vault(seed)
            self.assertIs(vault.is_up(), True)
            self.assertEqual(vault.generations(), [])
            self.assertEqual(vault.blocks(), plain_rest(seed, CELLS, {}))

    def test_the_seed(self):
        for seed in [0, 999999]:
            vault, files = Vault(seed), lasting_files(hall_told(seed, FILLED))
            vault.keep("g", files)
            self.assertEqual(vault.blocks(), plain_rest(seed, CELLS, on_disk({"g": files})))
            self.assertEqual(vault.cut_keys(["a"]), "ok")
            self.assertEqual(vault.files_of("g"), cut(seed, files, "a"))

    def test_names(self):
        self.begin()
        for name in BAD_NAMES:
            self.keep(name, EMPTY, "bad")
        for name in ["a", "z", "0", "9", "ab", "9z", "00"]:
            self.keep(name, FILES)
            self.discard(name)
        self.check_blocks()

    def test_2_generations_and_one_more(self):
        self.begin()
        self.discard("g", "none")
        self.keep("g", FILES)
        self.keep("g", EMPTY, "twice")
        self.keep("h", OTHERS)
        self.check_blocks()
        for name, answered in [("i", "full"), ("g", "twice"), ("h", "twice"), ("", "bad"), ("abc", "bad")]:
            self.keep(name, EMPTY, answered)
        self.discard("i", "none")
        self.discard("g")
        self.discard("g", "none")
        self.keep("i", EMPTY)
        self.keep("g", EMPTY, "full")
        self.check_blocks()

    def test_a_name_that_begins_another_one(self):
        self.begin(g=FILES, gg=OTHERS)
        self.check_blocks()
        for name in BAD_NAMES + ["g-", "gg-map"]:
            self.discard(name, "none")
        self.discard("g")
        self.check_blocks()
        self.begin(gg=OTHERS, g=FILES)
        self.discard("gg")
        self.cut_keys("a")
        self.check_blocks()

    def test_cut_keys(self):
        for keys in [[], ["a"], ["b"], ["c"], ["none"], ["a", "b"], ["b", "a"], ["a", "b", "c"], ["a", "a"]]:
            self.begin(g=FILES, h=OTHERS)
            self.cut_keys(*keys)
            self.check_blocks()
            self.cut_keys(*keys)
            self.check_blocks()

    def test_cut_by_hand(self):
        self.begin(g={"map": "0;", "log": "6:drop a6:drop b"}, h={"map": "0;", "log": "6:drop a"})
        self.cut_keys("a")
        self.assertEqual(self.vault.files_of("g"), {"map": "0;", "log": "6:drop b"})
        self.assertEqual(self.vault.files_of("h"), {"map": "0;"})

    def test_cut_without_generations(self):
        self.begin()
        self.cut_keys("a", "b")
        self.check_blocks()

    def test_nothing_to_write_with_the_power_off(self):
        self.begin(g=FILES, h=EMPTY)
        self.vault.supply(0, 0)
        self.cut_keys("none", "x")
        self.cut_keys()
        self.discard("i", "none")
        self.keep("i", EMPTY, "full")
        self.keep("", EMPTY, "bad")
        self.check_blocks()
        self.assertEqual(self.vault.restart(), "clean")
        self.check_is()
        self.assertEqual(self.vault.cut_keys(["a"]), "lost")

    def test_what_is_handed_in_or_returned_may_be_changed(self):
        files = dict(FILES)
        self.begin(g=files)
        files["map"] = "x"
        self.vault.files_of("g").clear()
        self.vault.generations().clear()
        self.vault.blocks().clear()
        self.check_is()
        self.check_blocks()

    def test_all_files_fit(self):
        files = lasting_files(hall_told(SEED, MOST))
        self.assertEqual(len(files), 7)
        self.begin(aa=files, bb=files)
        self.check_blocks()

    def test_random_vaults(self):
        choice = random.Random(93)
        halls = [lasting_files(hall_told(SEED, [random_hall_line(choice, KEYS) for _ in range(40)])) for _ in range(12)]
        for _ in range(15):
            self.begin()
            for _ in range(25):
                turn, name = choice.randrange(6), choice.choice(["g", "gg", "h"])
                if turn < 2:
                    full = "twice" if name in self.kept else "full" if len(self.kept) == 2 else "ok"
                    self.keep(name, choice.choice(halls), full)
                elif turn == 2:
                    self.discard(name, "ok" if name in self.kept else "none")
                elif turn < 5:
                    self.cut_keys(*choice.choices(KEYS, k=choice.randrange(3)))
                else:
                    self.assertEqual(self.vault.restart(), "clean")
                    self.check_is()
            self.check_blocks()


class TestSupply(VaultCase):
    def test_not_allowed(self):
        self.begin(g=EMPTY)
        self.vault.supply(2, 9)
        for writes, torn in [(-2, 0), (100001, 0), (0, -1), (0, 64), (-1, 64), (-1, -1)]:
            self.fails(NotAllowed, self.vault.supply, writes, torn)
        before = self.vault.blocks()
        self.assertEqual(self.vault.keep("h", EMPTY), "lost")
        changed = [k for k in range(len(before)) if self.vault.blocks()[k] != before[k]]
        # One entry in the journal and the header were written, and nine characters of a cell.
        self.assertEqual(len(changed), 3)
        self.fails(NotAllowed, self.vault.supply, -2, 0)
        for writes, torn in [(100000, 63), (0, 0), (-1, 63)]:
            self.assertIsNone(self.vault.supply(writes, torn))


class TestPower(VaultCase):
    ACTS = [("keep", "h", OTHERS), ("discard", "g"), ("cut_keys", ["a", "b"])]

    def after(self, act):
        """Return the generations behind an act of a vault that has the generation g."""
        kept = {"g": FILES}
        if act[0] == "keep":
            return {**kept, act[1]: act[2]}
        return {} if act[0] == "discard" else cut_all(kept, act[1])

    def lose(self, act, whole, torn):
        self.begin(g=FILES)
        self.vault.supply(whole, torn)
        self.assertEqual(getattr(self.vault, act[0])(*act[1:]), "lost")
        rows = self.rows(act)
        self.assertEqual(self.vault.blocks(),
                         cut_short(plain_rest(SEED, CELLS, on_disk(self.kept)), rows, whole, torn))
        self.check_down()

    def rows(self, act):
        return commit_rows(SEED, CELLS, on_disk({"g": FILES}), on_disk(self.after(act)))

    def check_down(self):
        blocks = self.vault.blocks()
        self.assertIs(self.vault.is_up(), False)
        for call, *args in [(self.vault.keep, "x", EMPTY), (self.vault.keep, "", EMPTY), (self.vault.keep, "g", EMPTY),
                            (self.vault.discard, "g"), (self.vault.discard, "x"), (self.vault.cut_keys, ["a"]),
                            (self.vault.cut_keys, [])]:
            self.assertEqual(call(*args), "down")
        self.fails(Down, self.vault.generations)
        for name in ["g", "x", ""]:
            self.fails(Down, self.vault.files_of, name)
        self.assertEqual(self.vault.blocks(), blocks)

    def check_restart(self, act, taken):
        self.vault.supply(-1, 0)
        self.check_down()
        self.assertEqual(self.vault.restart(), "made" if taken else "not made")
        self.kept = self.after(act) if taken else {"g": FILES}
        self.check_is()
        self.check_blocks()
        self.assertEqual(self.vault.restart(), "clean")
        self.check_is()

    def test_each_write_of_a_commit(self):
        for act in self.ACTS:
            n = (len(self.rows(act)) - 2) // 3
            for whole in range(3 * n + 2):
                self.lose(act, whole, [0, 1, 31, 63][whole % 4])
                self.check_restart(act, whole >= n + 1)

    def test_mounts_that_fail(self):
        for act in self.ACTS:
            n = (len(self.rows(act)) - 2) // 3
            for whole in [0, 1, n, n + 1, 2 * n, 2 * n + 1, 3 * n + 1]:
                # A torn write that leaves nothing to repair would not let the restart fail.
                self.lose(act, whole, 0 if whole else 1)
                self.assertEqual(self.vault.restart(), "down")
                for write in range(5):
                    blocks = self.vault.blocks()
                    rows = repair_rows(CELLS, blocks)
                    if write < len(rows):
                        self.vault.supply(write, 31)
                        self.assertEqual(self.vault.restart(), "down")
                        self.assertEqual(self.vault.blocks(), cut_short(blocks, rows, write, 31))
                        self.check_down()
                self.check_restart(act, whole >= n + 1)

    def test_a_mount_that_has_nothing_to_write(self):
        self.lose(self.ACTS[0], 0, 0)
        self.assertEqual(self.vault.restart(), "not made")
        self.check_is()
        self.assertEqual(self.vault.keep("h", EMPTY), "lost")
        self.assertEqual(self.vault.restart(), "not made")
        self.check_is()

    def test_enough_power(self):
        for act in self.ACTS:
            self.begin(g=FILES)
            self.vault.supply(len(self.rows(act)), 0)
            self.assertEqual(getattr(self.vault, act[0])(*act[1:]), "ok")
            self.kept = self.after(act)
            self.check_is()
            self.check_blocks()


if __name__ == "__main__":
    unittest.main()
