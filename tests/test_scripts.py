"""Scripts and looks: points 10.11 and 10.12."""

import random
import unittest

from lethe.events import event_text
from lethe.realms import Realm
from lethe.scripts import look, run_script, same_blocks
from tests.plain import Case, plain_coin, plain_rest
from tests.plain_realm import random_event
from tests.test_events import plain_event

SCRIPT = """say s do put a 1 1 1 "x"
ask t1
deliver 0

power v1 0 0
backup v1 g
 ask t1
ask t1 
say s 
say s
say s  log
deliver -1
power home -1 0
restart v1
restart nowhere
jump
say s begin
say s log"""
ANSWERS = ["new", "sent", "answered", "bad", "ok", "lost", "bad", "bad", "bad", "bad", "bad", "bad", "ok", "not made",
           "bad", "bad", "ok", 'put a 1 1 1 "x"']


def plain_look(realm):
    rows = []
    for place in realm.places():
        blocks = "".join(realm.blocks_of(place))
        rows.append(place + (" up " if realm.is_up(place) else " down ") + str(plain_coin(realm.seed, 4, blocks)))
    return "\n".join(rows)


class TestRunScript(Case):
    def test_by_hand(self):
        realm = Realm(5, 1, 1)
        self.assertEqual(run_script(realm, SCRIPT), ANSWERS)
        self.assertEqual(realm.number(), len(ANSWERS))

    def test_line_ends(self):
        for script, answers in [("", ["bad"]), ("\n", ["bad", "bad"]), ("say s log\n", ["-", "bad"]),
                                ("\nsay s log", ["bad", "-"]), ("say s log\n\nsay s log", ["-", "bad", "-"]),
                                ("say s log", ["-"]), ("say s log \nsay s log", ["bad", "-"])]:
            realm = Realm(5, 1, 1)
            self.assertEqual(run_script(realm, script), answers)
            self.assertEqual(realm.number(), len(answers))

    def test_a_line_that_is_no_event_uses_up_a_number(self):
        realm = Realm(5, 1, 0)
        self.assertEqual(run_script(realm, "\nask\nask t1 x\nask t1"), ["bad", "bad", "bad", "sent"])
        self.assertEqual(realm.letters(), [("ask", "t1", 4)])

    def test_against_handle(self):
        choice = random.Random(112)
        for _ in range(15):
            first, second = Realm(5, 2, 2), Realm(5, 2, 2)
            lines = []
            for _ in range(60):
                line = event_text(random_event(choice, first.places()))
                cut = choice.randrange(len(line) + 1)
                lines.append(choice.choice([line] * 6 + [line[:cut], line[:cut] + " " + line[cut:], line[1:]]))
            answers = []
            for line in lines:
                event = plain_event(line)
                answers.append(first.handle(("jump",) if event is None else event))
                if event is None:
                    self.assertEqual(answers[-1], "bad")
            self.assertEqual(run_script(second, "\n".join(lines)), answers)
            self.assertEqual((second.number(), second.effects(), second.letters()),
                             (first.number(), first.effects(), first.letters()))
            self.assertTrue(same_blocks(first, second))


class TestLook(Case):
    def test_a_new_realm(self):
        for seed in [0, 5, 999999]:
            seals = [plain_coin(seed, 4, "".join(plain_rest(seed, cells, files)))
                     for cells, files in [(192, {"map": "0;"}), (192, {}), (352, {})]]
            self.assertEqual(look(Realm(seed, 0, 0)), f"home up {seals[0]}")
            self.assertEqual(look(Realm(seed, 1, 2)),
                             f"home up {seals[0]}\nt1 up {seals[1]}\nv1 up {seals[2]}\nv2 up {seals[2]}")

    def test_places_that_are_down(self):
        realm = Realm(5, 2, 2)
        run_script(realm, "power home 3 5\nsay s snap x\npower v2 2 9\nbackup v2 g\npower v1 1 0\nask t1")
        self.assertEqual(look(realm), plain_look(realm))
        self.assertEqual([row.split(" ")[:2] for row in look(realm).split("\n")],
                         [["home", "down"], ["t1", "up"], ["t2", "up"], ["v1", "up"], ["v2", "up"]])
        realm = Realm(5, 1, 1)
        run_script(realm, "say s snap x\nask t1\ndeliver 0\npower t1 2 9\npower v1 2 9\nbackup v1 g\n"
                          "deliver 0\ndeliver 0")
        self.assertEqual([row.split(" ")[:2] for row in look(realm).split("\n")],
                         [["home", "up"], ["t1", "down"], ["v1", "down"]])
        self.assertEqual(look(realm), plain_look(realm))

    def test_random_realms(self):
        choice = random.Random(111)
        for _ in range(4):
            realm = Realm(choice.choice([0, 5, 999999]), 2, 2)
            for _ in range(60):
                realm.handle(random_event(choice, realm.places()))
            self.assertEqual(look(realm), plain_look(realm))


class TestSameBlocks(Case):
    def test_the_same(self):
        first, second = Realm(5, 2, 2), Realm(5, 2, 2)
        self.assertIs(same_blocks(first, first), True)
        self.assertIs(same_blocks(first, second), True)
        run_script(first, "say s snap x\nsay s unsnap x\nask t1\nsay s begin\naway v1")
        self.assertIs(same_blocks(first, second), True)
        run_script(first, "power t1 0 0\nsay s snap x")
        self.assertIs(same_blocks(first, second), False)
        self.assertIs(same_blocks(second, first), False)
        run_script(second, "say s snap x")
        self.assertIs(same_blocks(first, second), True)

    def test_other_places(self):
        for twins, vaults in [(2, 1), (1, 2), (0, 0), (3, 2)]:
            self.assertIs(same_blocks(Realm(5, 2, 2), Realm(5, twins, vaults)), False)
            self.assertIs(same_blocks(Realm(5, twins, vaults), Realm(5, 2, 2)), False)

    def test_one_place_is_enough(self):
        for script in ["power t2 0 0\nsay s snap x\nask t2\ndeliver 0\npower t2 1 1\ndeliver 0\ndeliver 0",
                       "say s snap x\nbackup v2 g"]:
            first, second = Realm(5, 2, 2), Realm(5, 2, 2)
            run_script(first, script)
            run_script(second, "say s snap x")
            self.assertEqual(first.blocks_of("home"), second.blocks_of("home"))
            self.assertIs(same_blocks(first, second), False)

    def test_a_place_that_is_down_may_have_the_same_blocks(self):
        first, second = Realm(5, 1, 1), Realm(5, 1, 1)
        run_script(first, "power home 0 0\nsay s snap x")
        self.assertFalse(first.is_up("home"))
        self.assertIs(same_blocks(first, second), True)

    def test_another_seed(self):
        first, second = Realm(5, 0, 1), Realm(6, 0, 1)
        for realm in [first, second]:
            run_script(realm, "say s snap x")
        self.assertIs(same_blocks(first, second), first.blocks_of("home") == second.blocks_of("home"))


if __name__ == "__main__":
    unittest.main()
