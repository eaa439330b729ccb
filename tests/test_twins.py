"""Twins: points 8.4 to 8.8."""

import itertools
import random
import unittest

from lethe.answers import answer
from lethe.blocks import Medium
from lethe.errors import BadForm, Down, NotAllowed
from lethe.letters import ask_letter, done_letter, part_letters, read_letter
from lethe.post import Post
from lethe.twins import Twin
from tests.plain import Case, commit_rows, cut_short, plain_pack, plain_rest, repair_rows
from tests.plain_twin import CELLS, PlainTwin
from tests.test_letters import FILES, NO_NUMBERS, NO_TWINS
from tests.test_post import NO_LETTERS

SMALL = {"map": "12", "log": ""}
OTHER = {"map": "3", "words": "x" * 50}
BIG = {f"f{k}": "x" * 4000 for k in range(2)}


def part(twin, question, moment, index, count, name, data):
    return plain_pack(["part", twin, str(question), str(moment), str(index), str(count), name, data])


class TwinCase(Case):
    """A twin and a plain one that get the same."""

    def begin(self, name="t1", seed=5):
        self.seed = seed
        self.twin = Twin(name, seed)
        self.plain = PlainTwin(name)

    def ask_both(self, number):
        letter = self.twin.ask(number)
        self.assertEqual(letter, self.plain.ask(number))
        return letter

    def take_both(self, letter):
        told = self.twin.take(letter)
        self.assertEqual(told, self.plain.take(letter), letter[:60])
        self.check_is()
        return told[0]

    def check_is(self):
        twin, plain = self.twin, self.plain
        self.assertIs(twin.is_down(), False)
        self.assertEqual((twin.question(), twin.waiting()), (plain.question, plain.waiting()))
        self.assertEqual(twin.files(), plain.files)

    def check_blocks(self):
        self.assertEqual(self.twin.blocks(), plain_rest(self.seed, CELLS, self.plain.files))

    def copy(self, question, moment, files):
        """Let the twins ask, and take the whole answer."""
        words = [self.take_both(letter) for letter in answer(self.ask_both(question), moment, files)]
        self.assertEqual(words[-1], "written")
        self.assertEqual(self.twin.files(), files)


class TestTwin(TwinCase):
    def test_example(self):
        twin = Twin("t1", 5)
        parts = answer(twin.ask(3), 4, {"map": "12", "log": ""})
        self.assertEqual(twin.take(parts[1]), ("kept", []))
        self.assertEqual(twin.waiting(), [1])
        self.assertEqual(twin.take(parts[0]), ("written", ["4:done2:t11:31:4"]))
        self.assertEqual(twin.take(parts[0]), ("old", []))
        self.assertEqual(twin.files(), {"log": "", "map": "12"})

    def test_new(self):
        for seed, name in itertools.product([0, 5, 999999], ["t1", "t2", "t3"]):
            self.begin(name, seed)
            self.check_is()
            self.check_blocks()
            self.assertIs(type(self.twin.medium()), Medium)
            self.assertEqual(self.twin.medium().size(), 1 + 2 * CELLS)
            self.assertEqual((self.twin.question(), self.twin.waiting(), self.twin.files()), (0, [], {}))

    def test_names_that_are_not_allowed(self):
        for name in NO_TWINS:
            self.fails(NotAllowed, Twin, name, 5)

    def test_ask(self):
        for name in ["t1", "t2", "t3"]:
            self.begin(name)
            for number in [1, 2, 10, 999999998, 999999999]:
                self.assertEqual(self.ask_both(number), ask_letter(name, number))
                self.check_is()

    def test_asks_that_are_not_allowed(self):
        self.begin()
        for number in NO_NUMBERS:
            self.fails(NotAllowed, self.twin.ask, number)
        self.check_is()
        self.ask_both(7)
        self.take_both(answer(ask_letter("t1", 7), 8, SMALL)[1])
        for number in NO_NUMBERS + [7, 6, 1]:
            self.fails(NotAllowed, self.twin.ask, number)
            self.check_is()
        self.assertEqual(self.twin.waiting(), [1])
        # An ask that raised an error does not count as an earlier one.
        self.fails(NotAllowed, self.twin.ask, 1000000000)
        self.ask_both(8)
        self.assertEqual(self.twin.restart(), "ok")
        for number in [8, 7, 1]:
            self.fails(NotAllowed, self.twin.ask, number)
        self.assertEqual(self.twin.question(), 0)
        self.plain.close()
        self.ask_both(9)

    def test_asking_forgets_all_parts(self):
        self.begin()
        parts = answer(self.ask_both(3), 4, SMALL)
        self.assertEqual(self.take_both(parts[0]), "kept")
        self.ask_both(5)
        self.assertEqual(self.twin.waiting(), [])
        self.assertEqual([self.take_both(letter) for letter in parts], ["old", "old"])
        self.assertEqual([self.take_both(letter) for letter in answer(ask_letter("t1", 5), 6, OTHER)],
                         ["kept", "written"])

    def test_returned_values_may_be_changed(self):
        self.begin()
        self.copy(3, 4, SMALL)
        self.twin.files().clear()
        self.twin.blocks().clear()
        self.take_both(answer(self.ask_both(5), 6, OTHER)[0])
        self.twin.waiting().clear()
        self.twin.take(ask_letter("t1", 5))[1].append("x")
        self.check_is()
        self.check_blocks()


class TestTake(TwinCase):
    def test_every_order(self):
        files = {"a": "1", "b": "", "c": "x" * 90}
        for order in itertools.permutations(range(3)):
            self.begin()
            parts = answer(self.ask_both(3), 4, files)
            self.assertEqual([self.take_both(parts[k]) for k in order], ["kept", "kept", "written"])
            self.check_blocks()
            self.assertEqual([self.take_both(letter) for letter in parts], ["old"] * 3)

    def test_doubled_parts(self):
        self.begin()
        parts = answer(self.ask_both(3), 4, SMALL)
        self.assertEqual([self.take_both(parts[k]) for k in [1, 1, 0, 0, 1]], ["kept", "old", "written", "old", "old"])

    def test_an_answer_of_no_files(self):
        self.begin()
        self.copy(3, 4, SMALL)
        parts = answer(self.ask_both(5), 6, {})
        self.assertEqual(len(parts), 1)
        self.assertEqual(self.take_both(parts[0]), "written")
        self.assertEqual(self.twin.files(), {})
        self.check_blocks()
        self.assertEqual(self.take_both(parts[0]), "old")

    def test_all_other_files_are_removed(self):
        self.begin()
        self.copy(3, 4, SMALL)
        self.copy(5, 6, OTHER)
        self.copy(7, 8, FILES | {"zz": "short"})
        self.copy(9, 10, SMALL)
        self.check_blocks()

    def test_letters_of_others(self):
        self.begin()
        self.ask_both(3)
        for letter in [ask_letter("t1", 3), done_letter("t1", 3, 4), *part_letters("t2", 3, 4, SMALL),
                       *part_letters("t1", 2, 4, SMALL), *part_letters("t1", 4, 4, SMALL),
                       *part_letters("t3", 3, 4, {}), *part_letters("t1", 9, 4, {})]:
            self.assertEqual(self.take_both(letter), "old")
        self.begin()
        for letter in part_letters("t1", 3, 4, SMALL) + part_letters("t1", 1, 1, {}):
            self.assertEqual(self.take_both(letter), "old")

    def test_a_greater_and_a_lesser_moment(self):
        self.begin()
        ask = self.ask_both(3)
        early, late = answer(ask, 4, SMALL), answer(ask, 6, OTHER)
        for letter, word in [(early[0], "kept"), (late[0], "kept"), (early[1], "old"), (early[0], "old"),
                             (late[1], "written"), (early[0], "old")]:
            self.assertEqual(self.take_both(letter), word)
        self.assertEqual(self.twin.files(), OTHER)
        self.begin()
        self.ask_both(3)
        # A moment may also be less than the question: they are not compared.
        self.assertEqual(self.take_both(part("t1", 3, 1, 0, 2, "a", "")), "kept")
        self.assertEqual(self.take_both(part("t1", 3, 2, 0, 1, "b", "")), "written")

    def test_the_lesser_moment_may_be_written(self):
        self.begin()
        ask = self.ask_both(3)
        early, late = answer(ask, 4, SMALL), answer(ask, 6, OTHER)
        self.assertEqual([self.take_both(letter) for letter in early + late], ["kept", "written", "old", "old"])
        self.assertEqual(self.twin.files(), SMALL)

    def test_another_count(self):
        self.begin()
        self.ask_both(3)
        for letter, word in [(part("t1", 3, 4, 0, 3, "a", "1"), "kept"), (part("t1", 3, 4, 1, 2, "b", "2"), "old"),
                             (part("t1", 3, 4, 1, 4, "b", "2"), "old"), (part("t1", 3, 4, 0, 0, "", ""), "old"),
                             (part("t1", 3, 4, 1, 3, "b", "2"), "kept"), (part("t1", 3, 5, 1, 2, "c", "2"), "kept"),
                             (part("t1", 3, 5, 0, 2, "d", "2"), "written")]:
            self.assertEqual(self.take_both(letter), word)

    def test_two_parts_of_one_name(self):
        self.begin()
        self.copy(3, 4, SMALL)
        self.ask_both(5)
        for letter, word in [(part("t1", 5, 6, 0, 2, "a", "1"), "kept"), (part("t1", 5, 6, 1, 2, "a", "1"), "full"),
                             (part("t1", 5, 7, 0, 1, "a", "1"), "old")]:
            self.assertEqual(self.take_both(letter), word)
        self.assertEqual((self.twin.question(), self.twin.waiting(), self.twin.files()), (0, [], SMALL))
        self.check_blocks()

    def test_an_answer_that_does_not_fit(self):
        # Each file of 4000 characters has 100 pieces; a twin has 192 cells.
        for files, fits in [(BIG, False), ({**BIG, "f1": "x" * 3680}, True), ({**BIG, "f1": "x" * 3681}, False),
                            ({**BIG, "f1": "x" * 3640, "f2": ""}, True), ({**BIG, "f1": "x" * 3680, "f2": ""}, False)]:
            self.begin()
            self.copy(3, 4, SMALL)
            words = [self.take_both(letter) for letter in answer(self.ask_both(5), 6, files)]
            self.assertEqual(words[-1], "written" if fits else "full")
            self.assertEqual(self.twin.files(), files if fits else SMALL)
            self.check_blocks()

    def test_30_parts(self):
        self.begin()
        files = {f"f{k}": str(k) for k in range(30)}
        self.copy(3, 4, files)
        self.check_blocks()

    def test_bad_form(self):
        self.begin()
        self.copy(3, 4, SMALL)
        self.take_both(answer(self.ask_both(5), 6, OTHER)[0])
        for text in NO_LETTERS + ["x", part("t1", 5, 6, 2, 2, "a", ""), part("t1", 5, 6, 0, 31, "a", ""),
                                  part("t1", 0, 6, 0, 1, "a", ""), part("t1", 5, 6, 1, 2, "A", "")]:
            self.fails(BadForm, self.twin.take, text)
            self.check_is()

    def test_random_letters(self):
        choice = random.Random(85)
        seen = set()
        for _ in range(60):
            self.begin(choice.choice(["t1", "t2"]))
            number, letters = 0, [done_letter("t1", 1, 2)]
            for _ in range(80):
                number += 1
                turn = choice.randrange(10)
                if turn == 0:
                    letters.append(self.ask_both(number))
                    self.check_is()
                elif turn == 1:
                    letters += part_letters(choice.choice(["t1", "t2"]), choice.randrange(1, number + 1), number, OTHER)
                elif turn < 5 and self.plain.question:
                    files = choice.choice([SMALL, OTHER, {}, {"a": "1", "b": "2", "c": "3"}])
                    moment = choice.randrange(1, number + 1)
                    letters += part_letters(self.plain.name, self.plain.question, moment, files)
                elif turn < 7 and self.plain.question:
                    row = choice.randrange(2), choice.choice([2, 2, 3]), choice.choice(["map", "a", "a"])
                    letters.append(part(self.plain.name, self.plain.question, self.plain.question + 1, *row, "x"))
                else:
                    word = self.take_both(choice.choice(letters[-8:]))
                    self.assertEqual(word in ("written", "full") and self.plain.question > 0, False)
                    seen.add(word)
            self.check_blocks()
        self.assertEqual(seen, {"old", "kept", "written", "full"})


class TestPower(TwinCase):
    def lose(self, whole, torn):
        """Let the power of a twin fail in the commit of an answer; return what the blocks are then."""
        self.begin()
        self.copy(3, 4, SMALL)
        parts = answer(self.ask_both(5), 6, OTHER)
        self.take_both(parts[0])
        self.twin.medium().supply(whole, torn)
        self.assertEqual(self.twin.take(parts[1]), ("lost", []))
        rows = commit_rows(5, CELLS, SMALL, OTHER)
        self.assertEqual(self.twin.blocks(), cut_short(plain_rest(5, CELLS, SMALL), rows, whole, torn))
        self.check_down()
        return (len(rows) - 2) // 3

    def check_down(self):
        blocks = self.twin.blocks()
        self.assertIs(self.twin.is_down(), True)
        for call, *args in [(self.twin.ask, 99), (self.twin.ask, 0), (self.twin.ask, 1), (self.twin.question,),
                            (self.twin.waiting,), (self.twin.files,), (self.twin.take, ask_letter("t1", 5)),
                            (self.twin.take, part_letters("t1", 5, 6, OTHER)[1])]:
            self.fails(Down, call, *args)
        for text in NO_LETTERS:
            self.fails(BadForm, self.twin.take, text)
        self.assertEqual(self.twin.blocks(), blocks)
        self.assertEqual(self.twin.medium().blocks(), blocks)

    def check_restarted(self, files):
        """Check that a twin without an open question has the files, and may ask anew."""
        self.plain.close()
        self.plain.files = files
        self.check_is()
        self.check_blocks()
        for letter in part_letters("t1", 5, 6, OTHER) + part_letters("t1", 5, 9, SMALL):
            self.assertEqual(self.take_both(letter), "old")
        self.fails(NotAllowed, self.twin.ask, 5)
        self.copy(7, 8, {"map": "new"})

    def test_each_write_of_a_commit(self):
        n = self.lose(0, 0)
        for whole in range(3 * n + 2):
            for torn in [0, 31, 63]:
                self.lose(whole, torn)
                self.assertEqual(self.twin.restart(), "down")
                self.twin.medium().supply(-1, 0)
                self.assertEqual(self.twin.restart(), "ok")
                self.check_restarted(OTHER if whole >= n + 1 else SMALL)

    def test_each_write_of_the_repair(self):
        n = self.lose(0, 0)
        for whole in [1, n, n + 1, 2 * n + 1, 3 * n + 1]:
            self.lose(whole, 63)
            write = 0
            while True:
                blocks = self.twin.blocks()
                rows = repair_rows(CELLS, blocks)
                if write >= len(rows):
                    break
                self.twin.medium().supply(write, 1)
                self.assertEqual(self.twin.restart(), "down")
                self.assertEqual(self.twin.blocks(), cut_short(blocks, rows, write, 1))
                self.check_down()
                write += 1
            self.twin.medium().supply(len(rows), 0)
            self.assertEqual(self.twin.restart(), "ok")
            self.twin.medium().supply(-1, 0)
            self.check_restarted(OTHER if whole >= n + 1 else SMALL)

    def test_a_restart_needs_power(self):
        self.lose(0, 0)
        # Nothing would be written, but the power is off.
        self.assertEqual(self.twin.restart(), "down")
        self.check_down()
        self.twin.medium().supply(0, 0)
        self.assertEqual(self.twin.restart(), "ok")
        self.twin.medium().supply(-1, 0)
        self.check_restarted(SMALL)

    def test_a_restart_of_a_twin_that_is_up(self):
        self.begin()
        self.copy(3, 4, SMALL)
        self.take_both(answer(self.ask_both(5), 6, OTHER)[0])
        self.assertEqual(self.twin.restart(), "ok")
        self.check_restarted(SMALL)

    def test_a_restart_of_a_twin_that_is_up_without_power(self):
        self.begin()
        self.copy(3, 4, SMALL)
        self.take_both(answer(self.ask_both(5), 6, OTHER)[0])
        medium = self.twin.medium()
        medium.supply(0, 0)
        self.fails(Down, medium.write, 0, " " * 64)
        self.check_is()
        self.assertEqual(self.twin.restart(), "down")
        self.check_down()
        medium.supply(-1, 0)
        self.check_down()
        self.assertEqual(self.twin.restart(), "ok")
        self.check_restarted(SMALL)

    def test_nothing_to_write(self):
        self.begin()
        self.copy(3, 4, SMALL)
        self.twin.medium().supply(0, 0)
        self.copy(5, 6, SMALL)
        words = [self.take_both(letter) for letter in answer(self.ask_both(7), 8, BIG)]
        self.assertEqual(words, ["kept", "full"])
        self.assertIs(self.twin.medium().is_down(), False)

    def test_enough_power(self):
        n = self.lose(0, 0)
        self.begin()
        self.copy(3, 4, SMALL)
        self.twin.medium().supply(3 * n + 2, 0)
        self.copy(5, 6, OTHER)


class TestNeverBack(TwinCase):
    """Points 8.7 and 8.8, with a post that delivers, loses and doubles letters in any order."""

    def test_random_events(self):
        choice = random.Random(87)
        written = failed = 0
        for _ in range(60):
            self.twin, self.post, self.event = Twin("t1", 5), Post(), 0
            # A number is among the files, so that home never has files anew that it had before.
            self.home = {0: {"map": "0"}}
            self.last = -1
            for _ in range(200):
                self.event += 1
                self.home[self.event] = dict(self.home[self.event - 1])
                failed += self.play(choice, choice.randrange(12))
                if not self.twin.is_down():
                    self.check_files()
            written += self.last > 50
        self.assertGreater(written, 40)
        self.assertGreater(failed, 40)

    def play(self, choice, turn):
        twin, post, index = self.twin, self.post, choice.randrange(40)
        if turn < 2:
            self.home[self.event]["map"] = str(self.event)
            self.home[self.event][choice.choice("abc")] = "x" * choice.randrange(90)
            self.home[self.event].pop(choice.choice("abc"), None)
        elif turn == 2 and not twin.is_down():
            post.send(twin.ask(self.event))
        elif turn == 3:
            twin.medium().supply(choice.choice([-1, -1, choice.randrange(30)]), choice.randrange(64))
        elif turn == 4 and (twin.is_down() or choice.randrange(5) == 0):
            twin.restart()
        elif post.size() and turn == 5:
            choice.choice([post.double, post.lose])(index % post.size())
        elif post.size() and turn > 5:
            return self.arrive(post.deliver(index % post.size()))
        return False

    def arrive(self, letter):
        read = read_letter(letter)
        if read[0] == "ask":
            for one in answer(letter, self.event, self.home[self.event]):
                self.post.send(one)
        elif read[0] == "part" and not self.twin.is_down():
            word, letters = self.twin.take(letter)
            for one in letters:
                self.post.send(one)
            return word == "lost"
        elif read[0] == "done" and not self.twin.is_down():
            # Point 8.8: the files are those of home at the moment of the confirmation, or later ones.
            self.check_files()
            self.assertGreaterEqual(self.last, read[3])
        return False

    def check_files(self):
        """Check that the files are those of home at a moment that is not before the last one."""
        files = self.twin.files()
        if files == {}:
            self.assertEqual(self.last, -1)
            return
        # The latest moment at which home had these files.
        moment = max([event for event in self.home if self.home[event] == files], default=-1)
        self.assertGreaterEqual(moment, max(self.last, 0))
        self.last = moment


if __name__ == "__main__":
    unittest.main()
