"""Long runs of halls: points 6.2, 6.13 and 6.23 to 6.27."""

import random
import unittest

from lethe.hall import Hall
from lethe.hall_lines import speaks
from lethe.lasting import lasting_files
from tests.plain_hall import plain_hall_line, random_hall_line
from tests.plain_store import plain_line
from tests.test_hall import RunCase

SESSIONS = ["s", "t", "u", "v", "a"]
FEW = ["a", "b", "c", "d"]
MANY = ["a", "b", "b1", "c", "zz9z", "0", "1", "d", "e", "x"]


def run_all(hall, rows):
    """Run the lines of sessions; return the answers and all effects."""
    told = [hall.run(session, line) for session, line in rows]
    return [answered for answered, _ in told], [effect for _, effects in told for effect in effects]


def told_effects(seed, effects):
    """Return a new hall that was told the effects one by one."""
    hall = Hall(seed)
    for effect in effects:
        hall.run("c", effect)
    return hall


def is_question(line):
    """Tell whether a line is one of the questions of point 6.27."""
    parsed = plain_hall_line(line)
    if parsed is None or parsed[0] not in ("do", "at", "pinned", "out", "way", "log", "stats"):
        return False
    return parsed[0] not in ("do", "at") or plain_line(parsed[-1])[0] not in ("put", "drop", "hold", "free")


def told_shortly(answered):
    """Return an answer without the number behind done."""
    return "done" if answered.startswith("done ") else answered


class TestRandomRuns(RunCase):
    def check_limits(self):
        plain = self.plain
        self.assertLessEqual(len(plain.log), 24)
        self.assertEqual(self.hall.log.lines(), plain.log)
        self.assertEqual(self.hall.edges.edges(), sorted(plain.edges))
        self.assertEqual(self.hall.snaps.names(), sorted(plain.snaps))
        self.assertEqual(self.hall.pins.names(), sorted(plain.pins))
        self.assertEqual({name: one.noted() for name, one in self.hall.transactions.items()},
                         {name: one.noted for name, one in plain.transactions.items()})
        for source, _, target in plain.edges:
            self.assertTrue(self.hall.store.has(source) and self.hall.store.has(target))

    def play(self, choice, seed, keys, many):
        """Run many lines in both halls; return the answers by their commands, and all effects."""
        self.begin(seed)
        seen, found = set(), []
        for _ in range(many):
            line = random_hall_line(choice, keys)
            answered, effects = self.run_both(choice.choice(SESSIONS[:choice.choice([1, 2, 5])]), line)
            self.check_image()
            seen.add((line.split(" ")[0], answered.split(" ")[0]))
            found += effects
        self.check_limits()
        # Point 6.25: the effects alone make the same lasting files.
        self.assertEqual(lasting_files(told_effects(seed, found)), lasting_files(self.hall))
        return seen

    def test_random_lines(self):
        choice = random.Random(61)
        seen = set()
        for k in range(100):
            keys = choice.choice([FEW[:2], FEW, MANY])
            seen |= self.play(choice, choice.choice([0, 5, 999999]), keys, choice.choice([30, 60, 120]))
        for row in ["begin ok", "begin twice", "begin full", "commit none", "commit conflict", "commit done",
                    "abort ok", "abort none", "leave ok", "snap ok", "snap twice", "snap full", "unsnap ok",
                    "unsnap none", "at none", "pin ok", "pin twice", "pin full", "unpin ok", "unpin none",
                    "pinned none", "link none", "link twice", "link new", "unlink ok", "unlink none", "out -",
                    "way none", "log -", "stats put", "erase erased", "erase held", "do full", "do new", "do changed",
                    "do gone", "do due", "do none", "do ok", "do held", "do free"]:
            self.assertTrue(tuple(row.split(" ")) in seen, row)

    def test_effects_are_lines_that_have_themselves_as_effects(self):
        choice = random.Random(62)
        for _ in range(20):
            rows = [(choice.choice(SESSIONS), random_hall_line(choice, FEW)) for _ in range(150)]
            _, effects = run_all(Hall(5), rows)
            self.assertEqual(run_all(Hall(5), [("c", effect) for effect in effects])[1], effects)


class TestErasedIsNeverTold(unittest.TestCase):
    def test_the_effects_without_a_key(self):
        choice = random.Random(63)
        checked = 0
        for k in range(150):
            keys, seed = [FEW, MANY][k % 2], choice.choice([0, 5, 999999])
            hall, effects = Hall(seed), []
            for _ in range(60):
                key = choice.choice(keys)
                line = choice.choice([random_hall_line(choice, keys)] * 7 + ["erase " + key])
                answered, told = hall.run(choice.choice(SESSIONS), line)
                effects += told
                if (line, answered) == ("erase " + key, "erased"):
                    # The effects of a commit are left out by themselves, as the line commit speaks of no key.
                    left = [effect for effect in effects if not speaks(effect, key)]
                    self.assertEqual(lasting_files(told_effects(seed, left)), lasting_files(hall), (key, effects))
                    checked += len(left) < len(effects) - 1
        self.assertGreater(checked, 300)

    def test_a_pin_that_was_removed(self):
        hall = Hall(5)
        rows = [("s", line) for line in ["pin p get a", "unpin p", "pin p count", "erase a"]]
        _, effects = run_all(hall, rows)
        left = [effect for effect in effects if not speaks(effect, "a")]
        self.assertEqual(left, ["unpin p", "pin p count"])
        other = Hall(5)
        self.assertEqual(run_all(other, [("c", effect) for effect in left])[0], ["none", "ok"])
        self.assertEqual(other.image(), hall.image())


class TestNeverSaid(unittest.TestCase):
    def runs(self, choice):
        """Return the lines with a key and without it, the key, and how many of the lines speak of it."""
        keys = FEW[:choice.choice([2, 3, 4])]
        key = choice.choice(keys)
        rows = []
        for _ in range(choice.randrange(25)):
            line = random_hall_line(choice, keys + [key] * choice.randrange(2))
            rows.append((choice.choice(SESSIONS), line))
        rows.append(("s", "erase " + key))
        return rows, [row for row in rows if not speaks(row[1], key)], key

    def test_lines_without_a_key(self):
        choice = random.Random(64)
        checked = with_transactions = 0
        for _ in range(1500):
            rows, left, key = self.runs(choice)
            hall, other = Hall(5), Hall(5)
            answers, _ = run_all(hall, rows)
            if answers[-1] != "erased":
                continue
            kept = [told_shortly(answered) for (_, line), answered in zip(rows, answers)
                    if not speaks(line, key) and not is_question(line)]
            others, _ = run_all(other, left)
            if kept == [told_shortly(answered) for (_, line), answered in zip(left, others) if not is_question(line)]:
                self.assertEqual(hall.image(), other.image(), rows)
                checked += len(left) < len(rows) - 1
                with_transactions += len(hall.transactions) > 0
        self.assertGreater(checked, 300)
        self.assertGreater(with_transactions, 200)

    def test_transactions_by_hand(self):
        rows = [("s", 'do put a 1 1 1 "x"'), ("s", 'do put b 1 1 1 "x"'), ("t", "begin"), ("t", "do drop a"),
                ("t", 'do put b 2 2 2 "y"'), ("s", "link a 0 b"), ("s", "snap x"), ("s", "pin p span a b"),
                ("s", "pin q count"), ("t", 'do put a 3 3 3 ""'), ("s", "do get a"), ("u", "begin"), ("s", "erase a")]
        hall, other = Hall(5), Hall(5)
        run_all(hall, rows)
        run_all(other, [row for row in rows if not speaks(row[1], "a")])
        self.assertEqual(hall.image(), other.image())
        self.assertEqual(hall.run("t", "commit"), ("done 1", ['do put b 2 2 2 "y"']))
        self.assertEqual(other.run("t", "commit"), ("done 1", ['do put b 2 2 2 "y"']))
        self.assertEqual(hall.image(), other.image())


if __name__ == "__main__":
    unittest.main()
