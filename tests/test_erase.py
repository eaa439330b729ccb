"""Erasing a key in a hall: points 6.16 and 6.17."""

import random
import types
import unittest

from lethe.edges import Edges
from lethe.erase import erase
from lethe.errors import NotAllowed
from lethe.lasting import lasting_files
from lethe.log import Log
from lethe.hall import Hall
from lethe.pins import Pins
from lethe.sessions import Transaction
from lethe.snaps import Snaps
from lethe.store import Store
from tests.plain import Case
from tests.plain_hall import PlainParts, PlainTransaction
from tests.plain_store import plain_done, random_change, random_question
from tests.test_snaps import NO_NAMES

KEYS = ["a", "b", "b1", "c", "zz9z", "0"]


def other_hall(seed):
    """Return a hall that is no object of the program's own."""
    return types.SimpleNamespace(seed=seed, store=Store(seed), edges=Edges(), log=Log(), snaps=Snaps(seed), pins=Pins(),
                                 transactions={})


class HallCase(Case):
    """A hall and a plain one that are told the same."""

    def begin(self, hall, seed):
        self.seed = seed
        self.hall = hall
        self.plain = PlainParts(seed)

    def change(self, line):
        self.assertEqual(self.hall.store.run(line), self.plain.store.run(line))

    def note(self, line):
        self.hall.log.note(line)
        self.plain.log.append(line)

    def link(self, source, kind, target):
        self.hall.edges.link(source, kind, target)
        self.plain.edges.append((source, kind, target))

    def take(self, name):
        self.hall.snaps.take(name, self.hall.store.map_image())
        self.plain.snaps[name] = self.plain.store.copied()

    def keep(self, name, line):
        self.hall.pins.keep(name, line)
        self.plain.pins[name] = line

    def open(self, session, lines):
        transaction = Transaction(self.seed, self.hall.store.map_image())
        self.hall.transactions[session] = transaction
        self.plain.transactions[session] = PlainTransaction(self.plain.store)
        for line in lines:
            self.assertEqual(transaction.run(line), self.plain.transactions[session].run(line))

    def look(self):
        """Return all that the hall shows."""
        images = {name: one.images() for name, one in self.hall.transactions.items()}
        return lasting_files(self.hall), images

    def check_is(self):
        self.assertEqual(self.look(), (self.plain.lasting(), self.plain.transaction_images()))

    def erase(self, key):
        before = self.look()
        answered = erase(self.hall, key)
        self.assertEqual(answered, self.plain.erase(key), key)
        self.check_is()
        if answered == "held":
            self.assertEqual(self.look(), before)
        return answered

    def fill(self):
        """Give the hall all parts; nobody holds a record but b1."""
        for line in ['put a 1 2 3 "red a"', 'put b 0 0 0 "b"', 'put b1 9 9 1 ""', 'put c 5 5 2 "fox"', "hold b1 me"]:
            self.change(line)
            self.note(line)
        self.take("x")
        self.change('put a 7 7 0 "fox"')
        self.note("free c a")
        for row in [("a", 0, "b"), ("b", 1, "c"), ("c", 2, "a"), ("a", 3, "a"), ("c", 0, "b1")]:
            self.link(*row)
        self.keep("a", "span b c")
        self.keep("p", "get a")
        self.keep("q", 'ask "fox"')
        self.take("a")
        self.open("a", ['put a 2 2 2 "two"', "get b", 'put d 1 1 1 "d"', "drop c"])
        self.open("t", ["drop b"])
        self.check_is()


class TestErase(HallCase):
    def test_each_key_of_a_hall_with_all_parts(self):
        for make in [Hall, other_hall]:
            for key, answered in [("a", "erased"), ("b", "erased"), ("b1", "held"), ("c", "erased"), ("d", "erased"),
                                  ("none", "erased"), ("me", "erased"), ("x", "erased"), ("fox", "erased"),
                                  ("two", "erased")]:
                self.begin(make(5), 5)
                self.fill()
                self.assertEqual(self.erase(key), answered)
                self.assertEqual(self.erase(key), answered)

    def test_by_hand(self):
        self.begin(Hall(5), 5)
        self.fill()
        self.erase("a")
        hall = self.hall
        self.assertEqual(hall.store.names(), ["b", "b1", "c"])
        self.assertEqual(hall.edges.edges(), [("b", 1, "c"), ("c", 0, "b1")])
        self.assertEqual(hall.log.lines(), ['put b 0 0 0 "b"', 'put b1 9 9 1 ""', 'put c 5 5 2 "fox"', "hold b1 me",
                                            "free c a"])
        self.assertEqual(hall.snaps.names(), ["a", "x"])
        self.assertEqual([hall.snaps.answer(name, "span 0 zz") for name in ["a", "x"]], ["b b1 c", "b b1 c"])
        self.assertEqual(hall.pins.names(), ["a", "q"])
        self.assertEqual(sorted(hall.transactions), ["a", "t"])
        self.assertEqual(hall.transactions["a"].noted(), [('put d 1 1 1 "d"', "new"), ("drop c", "gone")])
        self.assertEqual(hall.transactions["a"].run("span 0 zz"), "b b1 d")
        self.assertEqual(hall.transactions["t"].run("span 0 zz"), "b1 c")

    def test_a_hall_without_parts(self):
        for make in [Hall, other_hall]:
            self.begin(make(5), 5)
            for key in ["a", "none", "0", "abcd"]:
                self.assertEqual(self.erase(key), "erased")
            self.assertEqual(self.look(), ({"map": "0;"}, {}))

    def test_one_key_behind_the_other(self):
        for first, second in [("a", "b"), ("b", "c"), ("c", "a"), ("a", "none")]:
            looks = []
            for keys in [[first, second], [second, first]]:
                self.begin(Hall(5), 5)
                self.fill()
                for key in keys:
                    self.assertEqual(self.erase(key), "erased")
                looks.append(self.look())
            self.assertEqual(looks[0], looks[1])

    def test_kept_answers_change(self):
        self.begin(Hall(5), 5)
        self.fill()
        self.assertIn('1:q9:ask "fox"3:a c', lasting_files(self.hall)["pins"])
        self.erase("a")
        self.assertIn('1:q9:ask "fox"1:c', lasting_files(self.hall)["pins"])

    def test_not_allowed(self):
        for fill in [True, False]:
            self.begin(Hall(5), 5)
            if fill:
                self.fill()
            for key in NO_NAMES:
                self.fails(NotAllowed, erase, self.hall, key)
            self.check_is()


class TestHeld(HallCase):
    def test_in_the_store(self):
        self.begin(Hall(5), 5)
        self.fill()
        self.change("hold a you")
        self.assertEqual(self.erase("a"), "held")
        self.change("drop a")
        self.assertEqual(self.erase("a"), "held")
        self.change("free a you")
        self.assertEqual(self.erase("a"), "erased")

    def test_in_the_own_store_of_a_transaction(self):
        for session in ["a", "t", "z"]:
            self.begin(Hall(5), 5)
            self.fill()
            self.open(session, ["hold c you"])
            self.assertEqual(self.erase("c"), "held")
            self.assertEqual(self.hall.transactions[session].run("free c you"), "ok")
            self.plain.transactions[session].run("free c you")
            self.assertEqual(self.erase("c"), "erased")

    def test_in_a_snapshot(self):
        for name in ["a", "x"]:
            self.begin(Hall(5), 5)
            self.fill()
            self.hall.snaps.remove_one(name)
            del self.plain.snaps[name]
            self.change("hold c you")
            self.take(name)
            self.change("free c you")
            self.assertEqual(self.erase("c"), "held")
            self.hall.snaps.remove_one(name)
            del self.plain.snaps[name]
            self.assertEqual(self.erase("c"), "erased")

    def test_in_a_base_alone(self):
        self.begin(Hall(5), 5)
        self.fill()
        self.change("hold c you")
        self.open("z", ["free c you"])
        self.change("free c you")
        self.assertEqual(self.erase("c"), "erased")
        self.assertEqual(self.hall.transactions["z"].noted(), [])
        self.assertNotIn("1:c", self.hall.transactions["z"].images()[0])

    def test_in_the_store_alone(self):
        self.begin(Hall(5), 5)
        self.change('put a 1 2 3 "x"')
        self.change("hold a me")
        self.assertEqual(self.erase("a"), "held")
        self.assertEqual(self.erase("me"), "erased")

    def test_in_a_transaction_alone(self):
        self.begin(Hall(5), 5)
        self.open("s", ['put a 1 2 3 "x"', "hold a me", "drop a"])
        self.assertEqual(self.erase("a"), "held")
        self.assertEqual(self.erase("s"), "erased")


class TestRandomHalls(HallCase):
    def play(self, choice):
        turn = choice.randrange(8)
        line = random_change(choice, KEYS)
        name = choice.choice(["x", "y", "a"])
        if turn < 3:
            answered = self.plain.store.copied().run(line)
            self.change(line)
            if plain_done(line, answered) and len(self.plain.log) < 24:
                self.note(line)
        elif turn == 3:
            row = (choice.choice(KEYS), choice.randrange(4), choice.choice(KEYS))
            if row not in self.plain.edges and len(self.plain.edges) < 24:
                self.link(*row)
        elif turn == 4 and name not in self.plain.snaps and len(self.plain.snaps) < 2:
            self.take(name)
        elif turn == 5 and name not in self.plain.pins:
            self.keep(name, random_question(choice, KEYS))
        elif turn == 6 and name not in self.plain.transactions:
            self.open(name, [random_change(choice, KEYS) for _ in range(choice.randrange(6))])
        elif turn == 7:
            self.seen[self.erase(choice.choice(KEYS + ["none"]))] += 1

    def test_random_halls(self):
        choice = random.Random(616)
        self.seen = {"held": 0, "erased": 0}
        for seed in [0, 5, 999999]:
            for _ in range(20):
                self.begin(Hall(seed), seed)
                for _ in range(60):
                    self.play(choice)
                self.check_is()
        self.assertGreater(min(self.seen.values()), 40)


if __name__ == "__main__":
    unittest.main()
