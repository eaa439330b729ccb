"""Realms: points 10.1 to 10.6."""

import random
import unittest

from lethe.errors import Missing, NotAllowed
from lethe.realms import Realm
from tests.plain import Case, plain_rest
from tests.plain_realm import HandRealm, random_event

PUT = ("say", "s", 'do put a 1 1 1 "x"')
NOTHING = {"map": "0;"}


class RealmCase(Case):
    """A realm and one that the test handles itself."""

    def begin(self, twins=2, vaults=2, seed=5):
        self.seed = seed
        self.realm = Realm(seed, twins, vaults)
        self.hand = HandRealm(seed, twins, vaults)

    def both(self, *event):
        answered = self.realm.handle(event)
        self.assertEqual(answered, self.hand.handle(event), event)
        self.check_is()
        return answered

    def check_is(self):
        realm, hand = self.realm, self.hand
        self.assertEqual((realm.number(), realm.places()), (hand.number, hand.places()))
        self.assertEqual(realm.effects(), hand.effects())
        self.assertEqual(realm.letters(), hand.letters())
        for place, blocks in hand.blocks().items():
            self.assertIs(realm.is_up(place), hand.is_up(place))
            self.assertEqual(realm.blocks_of(place), blocks)

    def does(self, *rows):
        """Check the answers to events, which stand behind them."""
        for *event, answered in rows:
            self.assertEqual(self.both(*event), answered, event)

    def say(self, *lines):
        for line in lines:
            self.both("say", "s", line)

    def settle(self):
        self.assertIsNone(self.realm.settle())
        self.hand.settle()
        self.check_is()
        home = self.hand.home.lasting()
        self.assertEqual(self.realm.letters(), [])
        self.assertEqual(self.hand.home.duties(), [])
        for place in self.realm.places():
            self.assertTrue(self.realm.is_up(place))
        for place in self.hand.twins:
            self.assertEqual(self.realm.blocks_of(place), self.realm.blocks_of("home"))
            self.assertEqual(self.hand.twins[place].files(), home)


class TestNew(RealmCase):
    def test_places(self):
        for twins in range(4):
            for vaults in range(4):
                self.begin(twins, vaults)
                self.assertEqual(self.realm.places(),
                                 ["home"] + ["t1", "t2", "t3"][:twins] + ["v1", "v2", "v3"][:vaults])
                self.check_is()
                self.assertEqual((self.realm.number(), self.realm.effects(), self.realm.letters()), (0, [], []))

    def test_seeds(self):
        for seed in [0, 5, 999999]:
            self.begin(1, 1, seed)
            self.assertEqual(self.realm.seed, seed)
            self.assertEqual(self.realm.blocks_of("home"), plain_rest(seed, 192, NOTHING))
            self.assertEqual(self.realm.blocks_of("t1"), plain_rest(seed, 192, {}))
            self.assertEqual(self.realm.blocks_of("v1"), plain_rest(seed, 352, {}))
            self.does((*PUT, "new"), ("backup", "v1", "g", "ok"))

    def test_not_allowed(self):
        for twins, vaults in [(-1, 0), (4, 0), (0, -1), (0, 4), (-1, 4), (4, 4)]:
            self.fails(NotAllowed, Realm, 5, twins, vaults)

    def test_duties_are_for_all_places(self):
        self.begin(3, 3)
        self.does(("say", "s", "forget a", "pending"), ("say", "s", "status a", "pending t1 t2 t3 v1 v2 v3"))
        self.begin(0, 0)
        self.does(("say", "s", "forget a", "forgotten"), ("say", "s", "status a", "clear"))

    def test_missing(self):
        self.begin(1, 1)
        for place in ["t2", "v2", "t3", "", "h", "Home", "t0", "t", "home "]:
            self.fails(Missing, self.realm.blocks_of, place)
            self.fails(Missing, self.realm.is_up, place)
        self.check_is()

    def test_what_is_returned_may_be_changed(self):
        self.begin()
        self.does((*PUT, "new"), ("ask", "t1", "sent"))
        for found in [self.realm.effects(), self.realm.places(), self.realm.letters(), self.realm.blocks_of("home"),
                      self.realm.blocks_of("t1"), self.realm.blocks_of("v1")]:
            found.clear()
        self.check_is()


class TestBad(RealmCase):
    def test_events(self):
        self.begin(1, 1)
        self.does((*PUT, "new"), ("ask", "t1", "sent"))
        before = [self.realm.blocks_of(place) for place in self.realm.places()]
        for event in [("ask", "t2"), ("ask", "v1"), ("ask", "home"), ("ask", ""), ("backup", "t1", "g"),
                      ("backup", "v2", "g"), ("backup", "home", "g"), ("discard", "t1", "g"), ("discard", "v9", "g"),
                      ("tend", "t1"), ("tend", "home"), ("tend", "v2"), ("away", "t1"), ("away", "home"),
                      ("back", "v2"),
                      ("back", "t1"), ("power", "t2", -1, 0), ("power", "", 0, 0), ("power", "home", -2, 0),
                      ("power", "home", 100001, 0), ("power", "t1", 0, -1), ("power", "v1", 0, 64),
                      ("power", "v1", -1, 64), ("power", "x", -2, 64), ("restart", "t2"), ("restart", "v2"),
                      ("restart", ""), ("deliver", -1), ("lose", -1), ("double", -1), ("deliver", -99), ("jump", "t1"),
                      ("", ""), ("SAY", "s", "log"), ("settle",), ("number",), ("jump",)]:
            number = self.realm.number()
            self.assertEqual(self.both(*event), "bad", event)
            self.assertEqual(self.realm.number(), number + 1)
        self.assertEqual([self.realm.blocks_of(place) for place in self.realm.places()], before)
        self.assertEqual(self.realm.letters(), [("ask", "t1", 2)])
        # Nobody lost power, and no vault went away.
        self.does(("say", "s", "snap x", "ok"), ("backup", "v1", "g", "ok"), ("deliver", 0, "answered"))

    def test_tuples_of_another_length(self):
        self.begin(1, 1)
        for event in [("ask",), ("ask", "t1", "t1"), ("deliver",), ("power", "home", -1), ("say", "s"), ("restart",),
                      ("backup", "v1"), ("tend", "v1", "g")]:
            self.assertEqual(self.realm.handle(event), "bad")
        self.assertEqual((self.realm.number(), self.realm.letters(), self.realm.effects()), (8, [], []))

    def test_indexes_below_0_without_letters(self):
        self.begin(1, 1)
        self.does(("deliver", -1, "bad"), ("lose", -1, "bad"), ("double", -1, "bad"), ("deliver", 0, "none"),
                  ("lose", 0, "none"), ("double", 7, "none"))

    def test_a_bad_event_uses_up_a_number(self):
        self.begin(1, 0)
        self.does(("ask", "t2", "bad"), ("ask", "t2", "bad"), ("ask", "t1", "sent"), ("deliver", -1, "bad"),
                  ("deliver", 0, "answered"))
        self.assertEqual(self.realm.letters(), [("part", "t1", 3, 5, 0, 1, "map", "0;")])

    def test_edges_of_the_power(self):
        self.begin(1, 1)
        for place in ["home", "t1", "v1"]:
            self.does(("power", place, 0, 0, "ok"), ("power", place, 100000, 63, "ok"), ("power", place, -1, 63, "ok"))


class TestSay(RealmCase):
    def test_answers_and_effects(self):
        self.begin(1, 0)
        self.does((*PUT, "new"), ("say", "s", "do get a", '1 1 1 "x"'), ("say", "S", "log", "bad"),
                  ("say", "s", "", "bad"), ("say", "s", "begin", "ok"), ("say", "s", "do drop a", "gone"),
                  ("say", "s", 'do put b 1 1 1 "y"', "new"), ("say", "t", "do get a", '1 1 1 "x"'),
                  ("say", "s", "commit", "done 2"), ("say", "s", "forget a", "pending"))
        self.assertEqual(self.realm.effects(), [("line", line) for line in [
            'do put a 1 1 1 "x"', "do drop a", 'do put b 1 1 1 "y"', "forget a"]])

    def test_an_answer_that_looks_like_a_failure(self):
        self.begin(1, 1)
        self.does(("say", "s", 'do put lost 1 1 1 "x"', "new"), ("say", "s", 'do put down 2 2 2 "y"', "new"),
                  ("say", "s", 'do put made 3 3 3 "z"', "new"), ("say", "s", 'do ask "x"', "lost"),
                  ("say", "s", 'do ask "y"', "down"), ("say", "s", 'do ask "z"', "made"), ("restart", "home", "clean"),
                  ("say", "s", "do drop lost", "gone"))
        self.assertEqual(len(self.realm.effects()), 4)

    def test_a_line_that_was_lost(self):
        for writes in range(12):
            self.begin(1, 1)
            self.say('do put b 1 1 1 ""')
            self.does(("power", "home", writes, 31, "ok"))
            if self.both("say", "s", "snap x") == "ok":
                break
            self.assertEqual(self.realm.effects(), [("line", 'do put b 1 1 1 ""')])
            # What happens in between stands behind the line that was lost, if it was made.
            self.does(("say", "s", "log", "down"), ("discard", "v1", "g", "none"), ("ask", "t1", "sent"),
                      ("restart", "home", "down"), ("power", "home", -1, 0, "ok"))
            answered = self.both("restart", "home")
            self.does(("say", "s", "unsnap x", "ok" if answered == "made" else "none"),
                      ("restart", "home", "clean"))
            lines = ['do put b 1 1 1 ""', "snap x", "unsnap x"]
            self.assertEqual(self.realm.effects(), [("line", line) for line in lines[:3 if answered == "made" else 1]])
        else:
            self.fail("the power never lasted")

    def test_the_first_line_of_all(self):
        made = {"made": 0, "not made": 0}
        for writes in range(8):
            self.begin(1, 1)
            self.does(("power", "home", writes, 0, "ok"), ("say", "s", "snap x", "lost" if writes < 5 else "ok"),
                      ("power", "home", -1, 0, "ok"))
            if writes < 5:
                made[self.both("restart", "home")] += 1
            self.assertEqual(self.realm.effects(), [("line", "snap x")] * (writes >= 2))
        self.assertEqual(made, {"made": 3, "not made": 2})

    def test_a_place_that_is_still_down(self):
        self.begin(1, 1)
        self.does(("power", "home", 3, 0, "ok"), (*PUT, "lost"), ("restart", "home", "down"))
        self.assertEqual(self.realm.effects(), [])


class TestLetters(RealmCase):
    def test_one_answer(self):
        self.begin(2, 0)
        self.say('do put a 1 1 1 "x"', "forget b")
        self.does(("ask", "t1", "sent"))
        self.assertEqual(self.realm.letters(), [("ask", "t1", 3)])
        self.does(("deliver", 0, "answered"))
        files = self.hand.home.lasting()
        self.assertEqual(self.realm.letters(), [("part", "t1", 3, 4, k, 4, name, files[name])
                                                for k, name in enumerate(["log", "map", "points", "words"])])
        self.does(("deliver", 2, "kept"), ("deliver", 0, "kept"), ("deliver", 7, "kept"), ("double", 0, "doubled"),
                  ("deliver", 1, "written"))
        self.assertEqual(self.realm.letters(), [("part", "t1", 3, 4, 1, 4, "map", files["map"]), ("done", "t1", 3, 4)])
        self.does(("say", "s", "status b", "pending t1 t2"), ("deliver", 0, "old"), ("deliver", 0, "ok"),
                  ("say", "s", "status b", "pending t2"), ("deliver", 0, "none"))
        self.assertEqual(self.realm.blocks_of("t1"), plain_rest(5, 192, files))

    def test_indexes_beyond_the_number_of_letters(self):
        for index, left in [(0, [2, 3]), (1, [1, 3]), (2, [1, 2]), (3, [2, 3]), (4, [1, 3]), (302, [1, 2]),
                            (999999999, [2, 3])]:
            self.begin(3, 0)
            self.does(("ask", "t1", "sent"), ("ask", "t2", "sent"), ("ask", "t3", "sent"), ("lose", index, "lost"))
            self.assertEqual([letter[2] for letter in self.realm.letters()], left)
        self.does(("double", 3, "doubled"))
        self.assertEqual([letter[2] for letter in self.realm.letters()], [2, 3, 3])
        self.does(("double", 3, "doubled"), ("deliver", 7, "answered"))
        self.assertEqual([letter[:3] for letter in self.realm.letters()],
                         [("ask", "t2", 2), ("ask", "t2", 2), ("ask", "t3", 3), ("part", "t3", 3)])

    def test_a_confirmation_of_an_earlier_moment(self):
        self.begin(1, 0)
        self.does(("ask", "t1", "sent"), ("deliver", 0, "answered"), ("say", "s", "forget a", "pending"),
                  ("deliver", 0, "written"), ("deliver", 0, "none"), ("say", "s", "status a", "pending t1"),
                  ("ask", "t1", "sent"), ("deliver", 0, "answered"), ("deliver", 0, "written"),
                  ("double", 0, "doubled"), ("deliver", 0, "ok"), ("deliver", 0, "none"),
                  ("say", "s", "status a", "clear"))

    def test_a_question_that_was_doubled(self):
        self.begin(1, 0)
        self.does(("ask", "t1", "sent"), ("double", 0, "doubled"), ("deliver", 0, "answered"), (*PUT, "new"),
                  ("deliver", 0, "answered"))
        self.assertEqual([letter[3] for letter in self.realm.letters()], [3, 5, 5, 5, 5])
        self.does(("deliver", 1, "kept"), ("deliver", 0, "old"), ("deliver", 0, "kept"), ("deliver", 0, "kept"),
                  ("deliver", 0, "written"), ("deliver", 0, "none"))

    def test_letters_to_places_that_are_down(self):
        self.begin(1, 0)
        self.does(("say", "s", "forget a", "pending"), ("ask", "t1", "sent"), ("deliver", 0, "answered"),
                  ("power", "t1", 0, 0, "ok"), ("double", 0, "doubled"), ("deliver", 0, "lost"), ("deliver", 0, "down"),
                  ("ask", "t1", "down"), ("restart", "t1", "down"), ("power", "t1", -1, 0, "ok"), ("ask", "t1", "down"),
                  ("restart", "t1", "ok"), ("ask", "t1", "sent"), ("double", 0, "doubled"), ("deliver", 0, "answered"),
                  ("deliver", 1, "written"), ("double", 0, "doubled"), ("power", "home", 0, 0, "ok"))
        self.assertEqual([letter[0] for letter in self.realm.letters()], ["ask", "ask", "done"])
        self.does(("deliver", 2, "lost"))
        self.does(("deliver", 0, "down"), ("deliver", 0, "down"), ("deliver", 0, "none"),
                  ("restart", "home", "not made"),
                  ("power", "home", -1, 0, "ok"), ("say", "s", "status a", "pending t1"))

    def test_a_confirmation_that_is_lost(self):
        self.begin(1, 0)
        self.does(("say", "s", "forget a", "pending"), ("ask", "t1", "sent"), ("deliver", 0, "answered"),
                  ("deliver", 0, "written"), ("power", "home", 2, 0, "ok"), ("deliver", 0, "lost"),
                  ("say", "s", "log", "down"), ("power", "home", -1, 0, "ok"), ("restart", "home", "made"),
                  ("say", "s", "status a", "clear"))
        self.assertEqual(self.realm.effects(), [("line", "forget a")])


class Test40Letters(RealmCase):
    def fill(self, many):
        """Let so many questions be under way."""
        while len(self.realm.letters()) < many:
            self.does(("ask", "t2", "sent"))

    def test_a_twin_asks(self):
        self.begin(2, 0)
        self.fill(39)
        self.does(("ask", "t1", "sent"), ("ask", "t1", "full"))
        # No question was opened by that: the twin still waits for the answer to the earlier one.
        self.does(("deliver", 39, "answered"), ("deliver", 39, "written"))

    def test_down_goes_ahead_of_full(self):
        self.begin(2, 0)
        self.does(("ask", "t1", "sent"), ("deliver", 0, "answered"), ("power", "t1", 0, 0, "ok"),
                  ("deliver", 0, "lost"))
        self.fill(40)
        self.does(("ask", "t1", "down"), ("ask", "t2", "full"))

    def test_a_letter_is_doubled(self):
        self.begin(2, 0)
        self.fill(39)
        self.does(("double", 5, "doubled"), ("double", 5, "full"), ("lose", 0, "lost"), ("double", 50, "doubled"),
                  ("double", 0, "full"))

    def test_home_answers(self):
        for many, parts, answered in [(40, 1, "answered"), (40, 4, "full"), (38, 4, "full"), (37, 4, "answered"),
                                      (39, 1, "answered")]:
            self.begin(2, 0)
            if parts == 4:
                self.does((*PUT, "new"))
            self.fill(many)
            self.does(("deliver", 3, answered))
            self.assertEqual(len(self.realm.letters()), many - 1 + parts * (answered == "answered"))

    def test_a_twin_would_confirm(self):
        self.begin(2, 0)
        self.does(("ask", "t1", "sent"), ("deliver", 0, "answered"))
        self.fill(40)
        # The part itself makes room for the confirmation.
        self.does(("deliver", 0, "written"))
        self.assertEqual(len(self.realm.letters()), 40)
        self.assertEqual(self.realm.letters()[39], ("done", "t1", 1, 2))
        self.does(("ask", "t1", "full"), ("double", 39, "full"), ("deliver", 39, "none"), ("ask", "t1", "sent"))


class TestVaults(RealmCase):
    def test_answers(self):
        self.begin(1, 2)
        self.does((*PUT, "new"), ("backup", "v1", "", "bad"), ("backup", "v1", "abc", "bad"),
                  ("backup", "v1", "g", "ok"),
                  ("backup", "v1", "g", "twice"), ("backup", "v1", "h", "ok"), ("backup", "v1", "i", "full"),
                  ("discard", "v1", "i", "none"), ("discard", "v1", "h", "ok"), ("tend", "v1", "none"),
                  ("say", "s", "forget a", "pending"), ("backup", "v1", "i", "due"), ("discard", "v1", "g", "ok"),
                  ("tend", "v1", "ok"), ("tend", "v1", "none"), ("backup", "v1", "i", "ok"),
                  ("backup", "v2", "i", "due"))
        self.assertEqual(self.realm.effects(), [
            ("line", 'do put a 1 1 1 "x"'), ("keep", "v1", "g"), ("keep", "v1", "h"), ("discard", "v1", "h"),
            ("line", "forget a"), ("discard", "v1", "g"), ("keep", "v1", "i")])

    def test_away(self):
        self.begin(1, 2)
        self.does(("back", "v1", "ok"), ("away", "v1", "ok"), ("away", "v1", "ok"), ("backup", "v1", "g", "away"),
                  ("backup", "v2", "g", "ok"), ("discard", "v1", "g", "away"), ("tend", "v1", "away"),
                  ("say", "s", "forget a", "pending"), ("tend", "v1", "away"), ("tend", "v2", "ok"),
                  ("restart", "v1", "clean"), ("power", "v1", 0, 0, "ok"), ("backup", "v1", "g", "away"),
                  ("back", "v1", "ok"), ("tend", "v1", "ok"), ("backup", "v1", "g", "lost"))

    def test_down_goes_ahead_of_away(self):
        self.begin(1, 2)
        self.does(("power", "v1", 0, 0, "ok"), ("backup", "v1", "g", "lost"), ("away", "v1", "ok"),
                  ("backup", "v1", "g", "down"), ("discard", "v1", "g", "down"), ("tend", "v1", "down"),
                  ("restart", "v1", "not made"), ("backup", "v1", "g", "away"), ("discard", "v1", "g", "away"),
                  ("away", "v2", "ok"), ("power", "home", 0, 0, "ok"), (*PUT, "lost"), ("backup", "v1", "g", "down"),
                  ("backup", "v2", "g", "down"), ("tend", "v2", "down"), ("discard", "v2", "g", "away"),
                  ("back", "v2", "ok"), ("backup", "v2", "", "down"), ("tend", "v2", "down"),
                  ("discard", "v2", "g", "none"), ("discard", "v1", "g", "away"))

    def test_acts_that_were_lost(self):
        for event, effect in [(("backup", "v1", "h"), ("keep", "v1", "h")),
                              (("discard", "v1", "g"), ("discard", "v1", "g"))]:
            made = {"made": 0, "not made": 0}
            for writes in range(30):
                self.begin(1, 2)
                self.does((*PUT, "new"), ("backup", "v1", "g", "ok"), ("power", "v1", writes, 7, "ok"))
                if self.both(*event) == "ok":
                    break
                self.does(("say", "s", "snap x", "ok"), ("backup", "v2", "g", "ok"), ("power", "v1", -1, 0, "ok"))
                before = [("line", 'do put a 1 1 1 "x"'), ("keep", "v1", "g")]
                behind = [("line", "snap x"), ("keep", "v2", "g")]
                self.assertEqual(self.realm.effects(), before + behind)
                answered = self.both("restart", "v1")
                made[answered] += 1
                self.assertEqual(self.realm.effects(), before + [effect] * (answered == "made") + behind)
                self.does(("restart", "v1", "clean"))
            self.assertGreater(min(made.values()), 3)

    def test_a_tend_that_was_lost_has_no_effect(self):
        made = {"made": 0, "not made": 0}
        for writes in range(60):
            self.begin(1, 1)
            # A keep that was lost and not made stands in the same vault.
            self.does((*PUT, "new"), ("backup", "v1", "g", "ok"), ("power", "v1", 0, 0, "ok"),
                      ("backup", "v1", "h", "lost"), ("restart", "v1", "not made"), ("say", "s", "forget a", "pending"),
                      ("power", "v1", writes, 0, "ok"))
            if self.both("tend", "v1") == "ok":
                break
            self.does(("power", "v1", -1, 0, "ok"))
            made[self.both("restart", "v1")] += 1
            self.assertEqual(len(self.realm.effects()), 3)
            self.does(("tend", "v1", "ok"), ("tend", "v1", "none"))
        self.assertGreater(min(made.values()), 2)

    def test_a_tend_whose_duties_are_lost(self):
        self.begin(1, 1)
        self.does((*PUT, "new"), ("backup", "v1", "g", "ok"), ("say", "s", "forget a", "pending"),
                  ("power", "home", 0, 0, "ok"), ("tend", "v1", "lost"), ("tend", "v1", "down"),
                  ("restart", "home", "not made"), ("power", "home", -1, 0, "ok"), ("tend", "v1", "ok"))


class TestSettle(RealmCase):
    def test_a_new_realm(self):
        for twins in range(4):
            for vaults in range(4):
                self.begin(twins, vaults)
                self.settle()
                # Power and two events for each vault; power, a question, an answer, a part and a confirmation.
                self.assertEqual(self.realm.number(), 1 + 3 * vaults + 5 * twins)

    def test_transactions_stay(self):
        self.begin()
        self.say('do put a 1 1 1 "x"', "begin", "do drop a", "forget b")
        self.settle()
        self.does(("say", "s", "commit", "done 1"))
        self.say("begin", 'do put c 1 1 1 ""')
        self.does(("power", "home", 0, 0, "ok"), ("say", "t", "snap x", "lost"))
        self.settle()
        self.does(("say", "s", "commit", "none"))

    def test_every_state(self):
        for home in [False, True]:
            for twin in [False, True]:
                for vault in [False, True]:
                    self.begin()
                    self.say('do put a 1 1 1 "x"')
                    self.does(("backup", "v1", "g", "ok"), ("backup", "v2", "g", "ok"), ("ask", "t2", "sent"),
                              ("deliver", 0, "answered"), ("say", "s", "forget a", "pending"), ("away", "v2", "ok"))
                    if twin:
                        self.does(("power", "t2", 1, 1, "ok"), ("deliver", 0, "kept"), ("deliver", 0, "kept"),
                                  ("deliver", 0, "kept"), ("deliver", 0, "lost"))
                    if vault:
                        self.does(("power", "v1", 5, 1, "ok"), ("tend", "v1", "lost vault"))
                    if home:
                        self.does(("power", "home", 4, 1, "ok"), (*PUT, "lost"))
                    self.does(("ask", "t1", "sent"))
                    self.settle()
                    self.does(("say", "s", "status a", "clear"), ("backup", "v2", "h", "ok"))
                    self.assertNotIn(' "x"', "".join(self.realm.blocks_of("v2")))
                    before = [self.realm.blocks_of(place) for place in self.realm.places()]
                    self.settle()
                    self.assertEqual([self.realm.blocks_of(place) for place in self.realm.places()], before)

    def test_power_without_an_end(self):
        self.begin()
        for place in self.realm.places():
            self.does(("power", place, 2, 0, "ok"))
        self.settle()
        self.does((*PUT, "new"), ("backup", "v1", "g", "ok"))
        self.settle()

    def test_what_was_lost_and_made(self):
        self.begin()
        self.does((*PUT, "new"), ("power", "v1", 8, 0, "ok"), ("backup", "v1", "g", "lost"))
        self.settle()
        self.assertEqual(self.realm.effects(), [("line", 'do put a 1 1 1 "x"'), ("keep", "v1", "g")])

    def test_40_letters(self):
        self.begin()
        self.does((*PUT, "new"))
        for _ in range(40):
            self.does(("ask", "t1", "sent"))
        self.settle()


class TestRandomEvents(RealmCase):
    def test_against_the_places_by_hand(self):
        choice = random.Random(101)
        seen = {}
        for twins, vaults in [(0, 0), (1, 0), (0, 1), (3, 3)] * 3 + [(2, 2)] * 25:
            self.begin(twins, vaults, choice.choice([0, 5, 999999]))
            for _ in range(choice.choice([60, 120, 240])):
                event = random_event(choice, self.realm.places())
                answered = self.both(*event)
                seen.setdefault(event[0], set()).add(answered.split(" ")[0])
                if choice.randrange(60) == 0:
                    self.settle()
            self.settle()
        for word, answers in [("say", "down lost pending forgotten held new"), ("ask", "down sent bad"),
                              ("deliver", "none answered old kept written ok down lost"), ("lose", "lost none"),
                              ("double", "doubled none"), ("backup", "ok due away down lost twice bad full"),
                              ("discard", "none ok away down"), ("tend", "none ok away down"), ("away", "ok bad"),
                              ("back", "ok bad"), ("power", "ok"), ("restart", "clean made ok down")]:
            self.assertEqual(set(answers.split(" ")) - seen[word], set(), word)


if __name__ == "__main__":
    unittest.main()
