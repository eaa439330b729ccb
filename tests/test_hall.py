"""Halls by hand: points 6.1 to 6.19 and 6.26."""

import unittest

from lethe.edges import Edges
from lethe.hall import Hall
from lethe.lasting import lasting_files
from lethe.log import Log
from lethe.pins import Pins
from lethe.sessions import Transaction
from lethe.snaps import Snaps
from lethe.store import Store
from tests.plain import Case, plain_pack
from tests.plain_hall import PlainHall
from tests.test_snaps import NO_NAMES


class RunCase(Case):
    """A hall and a plain one that are told the same lines."""

    def begin(self, seed=5):
        self.hall = Hall(seed)
        self.plain = PlainHall(seed)

    def run_both(self, session, line):
        told = self.hall.run(session, line)
        self.assertEqual(told, self.plain.run(session, line), (session, line))
        self.assertEqual((type(told), type(told[0]), type(told[1])), (tuple, str, list))
        return told

    def check_image(self):
        self.assertEqual(self.hall.image(), self.plain.image())
        self.assertEqual(lasting_files(self.hall), self.plain.lasting())

    def says(self, *rows):
        """Check the answers to lines of sessions; the effects are those of the plain hall."""
        for session, line, answered in rows:
            self.assertEqual(self.run_both(session, line)[0], answered, (session, line))
            self.check_image()

    def fill_log(self, session, many):
        """Fill the log with so many changes of one record."""
        self.says((session, 'do put log 1 1 1 ""', "new"))
        for k in range(many - 1):
            self.run_both(session, "do hold log me" if k % 2 == 0 else "do free log me")
        self.assertEqual(len(self.plain.log), many)


class TestExamples(RunCase):
    def test_of_the_interface(self):
        hall = Hall(5)
        for session, line, told in [
                ("s", 'do put a 1 2 3 "red fox"', ("new", ['do put a 1 2 3 "red fox"'])), ("s", "begin", ("ok", [])),
                ("s", "do drop a", ("gone", [])), ("t", "do get a", ('1 2 3 "red fox"', [])),
                ("s", "commit", ("done 1", ["do drop a"])), ("t", "log", ('put a 1 2 3 "red fox"; drop a', [])),
                ("t", "erase a", ("erased", ["erase a"])), ("t", "log", ("-", []))]:
            self.assertEqual(hall.run(session, line), told)
        self.assertEqual(Hall(5).run("S", "log"), ("bad", []))

    def test_fields(self):
        for seed in [0, 5, 999999]:
            hall = Hall(seed)
            self.assertEqual(hall.seed, seed)
            found = [hall.store, hall.edges, hall.log, hall.snaps, hall.pins]
            self.assertEqual([type(part) for part in found], [Store, Edges, Log, Snaps, Pins])
            self.assertEqual(hall.transactions, {})
            hall.run("s", "begin")
            self.assertEqual([type(part) for part in hall.transactions.values()], [Transaction])
            self.assertEqual(list(hall.transactions), ["s"])

    def test_each_object_has_parts_of_its_own(self):
        first, second = Hall(5), Hall(5)
        for line in ['do put a 1 1 1 ""', "link a 0 a", "snap x", "pin x count", "begin"]:
            first.run("s", line)
        self.assertEqual(second.image(), Hall(5).image())

    def test_all_parts_have_the_seed(self):
        for seed in [0, 7, 999999]:
            self.begin(seed)
            for line in ['do put a 1 1 1 "red"', 'do put b 2 2 2 "fox"', "snap x", "pin p receipt a", "begin",
                         "do drop b", "do receipt a", "at x receipt a", "pinned p"]:
                self.run_both("s", line)
            self.check_image()

    def test_image_by_hand(self):
        hall = Hall(5)
        self.assertEqual(hall.image(), "3:map2:0;")
        hall.run("t", "begin")
        hall.run("s", "begin")
        hall.run("s", "do drop a")
        self.assertEqual(hall.image(), plain_pack(["map", "0;", "s", "0;", "0;", "", "t", "0;", "0;", ""]))
        hall.run("t", 'do put a 1 2 3 ""')
        own = plain_pack(["a", plain_pack(["1", "2", "3", "0", ""])])
        self.assertEqual(hall.image(), plain_pack(["map", "0;", "s", "0;", "0;", "", "t", "0;", "1;0" + own,
                                                   plain_pack(['put a 1 2 3 ""', "new"])]))
        hall.run("s", "pin p count")
        self.assertTrue(hall.image().startswith(plain_pack(["map", "0;", "pins", "1:p5:count1:0", "s", "0;"])))


class TestBadLines(RunCase):
    def test_lines(self):
        self.begin()
        self.says(("s", 'do put a 1 1 1 "x"', "new"), ("s", "begin", "ok"))
        for line in ["", " ", "do", "do ", "do  count", "count", "do log", "log ", " log", "commit x", "begin s",
                     "snap", "snap A", "snap x y", "at x", "at x log", "at X count", "pin x", "unpin", "pinned",
                     "link a 4 b", "link a 0", "link a 00 b", "out", "out A", "way a", "way a b c", "erase", "erase A",
                     "erase a b", "LOG", '"log"', "forget a", "status a", "do put a 1 1 4 \"\"", "erase \"a\""]:
            self.says(("s", line, "bad"), ("t", line, "bad"))

    def test_lines_of_80_and_81_characters(self):
        self.begin()
        for length in [79, 80, 81, 82]:
            for begin in ["do count", "log", "log ", 'do ask "a"', 'do put a 1 1 1 "x', "pin p count "]:
                line = begin + "x" * (length - len(begin))
                self.assertEqual(len(line), length)
                self.says(("s", line, "bad"))

    def test_sessions(self):
        self.begin()
        for session in NO_NAMES:
            for line in ["log", 'do put a 1 1 1 "x"', "begin", "leave", "erase a", "snap x", "do count"]:
                self.says((session, line, "bad"))
        for session in ["a", "0", "zz9z"]:
            self.says((session, "log", "-"), (session, "begin", "ok"))

    def test_bad_goes_first(self):
        self.begin()
        self.says(("s", "at x drop a", "bad"), ("s", "pin x drop a", "bad"))
        for name in ["x", "y", "z"]:
            self.says(("s", f"pin {name} count", "ok"))
        self.says(("s", "pin x drop a", "bad"), ("s", "pin w hold a b", "bad"), ("s", "snap x", "ok"),
                  ("s", "at x free a b", "bad"), ("s", 'at x put a 1 1 1 ""', "bad"), ("s", "at x count", "0"))


class TestStoreLines(RunCase):
    def test_effects(self):
        self.begin()
        for line, answered, has_effect in [
                ('put a 1 1 1 "x"', "new", True), ('put a 1 1 1 "x"', "changed", True), ("hold a me", "ok", True),
                ("hold a me", "held", False), ("hold a us", "ok", True), ("hold a you", "full", False),
                ("drop a", "due", True), ("drop a", "due", True), ('put a 2 2 2 ""', "due", False),
                ("free a you", "free", False), ("free a me", "ok", True), ("free a us", "gone", True),
                ("drop a", "none", False), ("hold a me", "none", False), ("free a me", "none", False),
                ("count", "0", False), ("get a", "none", False)]:
            before = self.hall.log.lines()
            self.assertEqual(self.run_both("s", "do " + line), (answered, ["do " + line] * has_effect))
            self.assertEqual(self.hall.log.lines(), before + [line] * has_effect)
            self.check_image()

    def test_each_effect_by_hand(self):
        hall = Hall(5)
        for line, told in [('put a 1 1 1 "x"', ("new", ['do put a 1 1 1 "x"'])),
                           ("hold a me", ("ok", ["do hold a me"])),
                           ("drop a", ("due", ["do drop a"])), ("drop a", ("due", ["do drop a"])),
                           ('put a 2 2 2 ""', ("due", [])), ("free a me", ("gone", ["do free a me"])),
                           ("drop a", ("none", [])), ("check a 5", ("false", [])), ("count", ("0", []))]:
            self.assertEqual(hall.run("s", "do " + line), told)
        self.assertEqual(hall.run("s", "log"),
                         ('put a 1 1 1 "x"; hold a me; drop a; drop a; free a me', []))
        self.assertEqual(hall.run("s", "stats"), ("put 1 drop 2 hold 1 free 1", []))

    def test_answers_that_look_like_those_of_a_change(self):
        self.begin()
        receipt = self.plain.store.run("receipt a")
        self.says(("s", f"do check a {receipt}", "gone"), ("s", 'do put gone 1 1 1 "x"', "new"),
                  ("s", 'do put ok 2 2 2 "y"', "new"), ("s", "link ok 0 gone", "new"),
                  ("s", 'do ask "x"', "gone"), ("s", 'do ask "y"', "ok"), ("s", f"do check a {receipt}", "gone"),
                  ("s", "out ok", "0:gone"), ("s", "log", 'put gone 1 1 1 "x"; put ok 2 2 2 "y"'))

    def test_24_log_lines_and_one_more(self):
        self.begin()
        self.fill_log("s", 23)
        self.says(("s", 'do put b 1 1 1 ""', "new"))
        for line in ['put b 1 1 1 ""', 'put c 1 1 1 ""', "drop b", "drop none", "hold log me", "free none me"]:
            self.says(("s", "do " + line, "full"))
            self.assertEqual(self.hall.run("s", "do " + line), ("full", []))
        self.says(("s", "do count", "2"), ("s", "do get c", "none"), ("s", "link b 0 log", "new"),
                  ("s", "snap x", "ok"),
                  ("t", "begin", "ok"), ("t", "do drop b", "gone"), ("s", "erase b", "erased"),
                  ("s", "do drop none", "none"), ("s", 'do put c 1 1 1 ""', "new"), ("s", "do drop c", "full"))

    def test_a_record_that_goes_takes_its_edges(self):
        for end in [["drop b"], ["hold b me", "drop b", "free b me"]]:
            self.begin()
            for key in ["a", "b", "c"]:
                self.says(("s", f'do put {key} 1 1 1 ""', "new"))
            for row in ["a 0 b", "b 1 c", "b 2 b", "a 3 c", "c 0 b", "c 1 a"]:
                self.says(("s", f"link {row}", "new"))
            for line in end:
                before = self.plain.run("s", "out b")
                self.assertEqual(self.hall.run("s", "out b"), before)
                self.run_both("s", "do " + line)
            self.says(("s", "out a", "3:c"), ("s", "out b", "-"), ("s", "out c", "1:a"))
            self.assertEqual(self.hall.edges.edges(), [("a", 3, "c"), ("c", 1, "a")])


class TestTransactions(RunCase):
    def test_by_hand(self):
        self.begin()
        self.says(("s", "commit", "none"), ("s", "abort", "none"), ("s", "leave", "ok"), ("s", "begin", "ok"),
                  ("s", "begin", "twice"), ("s", 'do put a 1 1 1 "x"', "new"), ("s", "do get a", '1 1 1 "x"'),
                  ("t", "do get a", "none"), ("s", "abort", "ok"), ("s", "do get a", "none"), ("s", "begin", "ok"),
                  ("s", 'do put a 1 1 1 "x"', "new"), ("s", "leave", "ok"), ("s", "commit", "none"),
                  ("s", "begin", "ok"), ("s", "commit", "done 0"), ("s", "commit", "none"))
        self.assertEqual(self.hall.image(), Hall(5).image())

    def test_effects_of_a_commit(self):
        hall = Hall(5)
        hall.run("s", "begin")
        for line in ['put a 1 1 1 "x"', "hold a me", "get a", "hold a me", "drop a", "drop a", "drop b"]:
            self.assertEqual(hall.run("s", "do " + line)[1], [])
        lines = ['put a 1 1 1 "x"', "hold a me", "drop a", "drop a"]
        self.assertEqual(hall.run("s", "commit"), ("done 4", ["do " + line for line in lines]))
        self.assertEqual(hall.log.lines(), lines)

    def test_3_sessions_and_one_more(self):
        self.begin()
        for session in ["s", "t", "u"]:
            self.says((session, "begin", "ok"))
        self.says(("v", "begin", "full"), ("t", "begin", "twice"), ("v", "commit", "none"), ("t", "abort", "ok"),
                  ("v", "begin", "ok"), ("t", "begin", "full"), ("v", "commit", "done 0"), ("t", "begin", "ok"),
                  ("u", "leave", "ok"), ("v", "begin", "ok"))

    def test_8_noted_lines_and_one_more(self):
        self.begin()
        self.says(("s", "begin", "ok"))
        for k in range(8):
            self.says(("s", f'do put a {k} 1 1 ""', "changed" if k else "new"), ("s", "do hold none me", "none"
                                                                              if k < 7 else "full"))
        self.says(("s", "do drop a", "full"), ("s", "do drop none", "full"), ("s", "do get a", '7 1 1 ""'),
                  ("t", "do get a", "none"), ("s", "commit", "done 8"), ("s", "do drop a", "gone"))

    def test_a_commit_that_would_make_25_lines(self):
        for many, answered in [(22, "done 2"), (23, "full"), (24, "full")]:
            self.begin()
            self.says(("s", "begin", "ok"), ("s", 'do put a 1 1 1 ""', "new"), ("s", "do hold a me", "ok"))
            self.says(("t", "begin", "ok"))
            self.fill_log("u", many)
            self.says(("s", "commit", answered))
            if answered == "full":
                self.says(("s", "begin", "twice"), ("s", "do get a", '1 1 1 "" held 1'), ("s", "commit", "full"),
                          ("t", "commit", "done 0"), ("t", "do get a", "none"))
            if many == 23:
                self.says(("t", "erase log", "erased"), ("s", "commit", "done 2"))

    def test_conflict_goes_ahead_of_full(self):
        self.begin()
        self.says(("s", "begin", "ok"), ("s", 'do put log 1 1 1 ""', "new"))
        self.fill_log("u", 24)
        self.says(("s", "commit", "conflict"), ("s", "commit", "none"))

    def test_conflicts_in_a_record(self):
        begin = ['put a 1 1 1 "x"', "hold a me", 'put b 1 1 1 ""', 'put c 1 1 1 ""']
        for noted, others in [
                ('put a 2 2 2 "y"', ['put a 1 1 1 "z"']), ('put a 2 2 2 "y"', ['put a 2 1 1 "x"']),
                ('put a 2 2 2 "y"', ['put a 1 2 1 "x"']), ('put a 2 2 2 "y"', ['put a 1 1 2 "x"']),
                ('put a 2 2 2 "y"', ["hold a us"]), ('put a 2 2 2 "y"', ["free a me"]),
                ('put a 2 2 2 "y"', ["hold a us", "free a me"]), ("drop a", ["drop a"]), ("hold a us", ["drop a"]),
                ("drop b", ["drop b"]), ('put b 2 2 2 ""', ["drop b"]), ('put d 1 1 1 ""', ['put d 1 1 1 ""']),
                ("free a me", ["drop a", "free a me"]), ('put d 1 1 1 ""', ['put d 2 2 2 ""'])]:
            self.begin()
            for line in begin:
                self.run_both("t", "do " + line)
            self.says(("s", "begin", "ok"))
            self.assertIn(self.run_both("s", "do " + noted)[0], ["new", "changed", "ok", "due", "gone"])
            for line in others:
                self.run_both("t", "do " + line)
            self.says(("s", "commit", "conflict"), ("s", "commit", "none"), ("s", "begin", "ok"))

    def test_no_conflict(self):
        for others in [['put b 2 2 2 "z"'], ["drop b"], ["hold a us", "free a us"], ['put a 1 1 1 "x"'],
                       ["drop c", 'put c 1 1 1 ""'], ['put d 1 1 1 ""', "drop d"]]:
            self.begin()
            for line in ['put a 1 1 1 "x"', "hold a me", 'put b 1 1 1 ""', 'put c 1 1 1 ""']:
                self.run_both("t", "do " + line)
            self.says(("s", "begin", "ok"), ("s", 'do put a 2 2 2 "y"', "changed"), ("s", "do drop c", "gone"),
                      ("s", 'do put d 3 3 3 ""', "new"), ("s", "do get b", '1 1 1 ""'))
            for line in others:
                self.run_both("t", "do " + line)
            self.says(("s", "commit", "done 3"))

    def test_answers_that_would_differ(self):
        self.begin()
        for k in range(7):
            self.says(("t", f'do put {k} 1 1 1 ""', "new"))
        self.says(("s", "begin", "ok"), ("s", 'do put a 1 1 1 ""', "new"), ("t", 'do put b 1 1 1 ""', "new"),
                  ("s", "commit", "conflict"), ("t", "do drop b", "gone"), ("s", "begin", "ok"),
                  ("s", 'do put a 1 1 1 ""', "new"), ("t", 'do put b 1 1 1 ""', "new"), ("t", "do drop 0", "gone"),
                  ("s", "commit", "done 1"))

    def test_a_commit_takes_the_edges_of_what_goes(self):
        self.begin()
        self.says(("s", 'do put a 1 1 1 ""', "new"), ("s", 'do put b 1 1 1 ""', "new"), ("s", "begin", "ok"),
                  ("s", "do drop a", "gone"), ("s", 'do put a 1 1 1 ""', "new"), ("t", "link a 0 b", "new"),
                  ("t", "link b 0 b", "new"), ("s", "commit", "done 2"), ("t", "out a", "-"), ("t", "out b", "0:b"))

    def test_only_do_uses_the_own_store(self):
        self.begin()
        self.says(("t", 'do put a 1 1 1 ""', "new"), ("s", "begin", "ok"), ("s", 'do put b 1 1 1 ""', "new"),
                  ("s", "link a 0 b", "none"), ("s", "link a 0 a", "new"), ("s", "do drop a", "gone"),
                  ("s", "out a", "0:a"), ("s", "way a a", "a"), ("s", "way b b", "none"), ("s", "pin p count", "ok"),
                  ("s", "pinned p", "1"), ("s", "do count", "1"), ("s", "snap x", "ok"), ("s", "at x span 0 z", "a"),
                  ("s", "log", 'put a 1 1 1 ""'), ("s", "unlink a 0 a", "ok"), ("s", "erase b", "erased"),
                  ("s", "do get b", "none"), ("s", "commit", "done 1"))


class TestParts(RunCase):
    def test_2_snapshots_and_one_more(self):
        self.begin()
        self.says(("s", "unsnap x", "none"), ("s", "at x count", "none"), ("s", "snap x", "ok"),
                  ("s", 'do put a 1 2 3 "red"', "new"), ("s", "snap x", "twice"), ("t", "snap y", "ok"),
                  ("s", "snap z", "full"), ("s", "snap y", "twice"), ("s", "at x count", "0"), ("s", "at y count", "1"),
                  ("s", "do drop a", "gone"), ("s", 'at y ask "red"', "a"), ("s", "unsnap z", "none"),
                  ("s", "unsnap y", "ok"), ("s", "snap z", "ok"), ("s", "at z count", "0"), ("s", "at y count", "none"))

    def test_3_pins_and_one_more(self):
        self.begin()
        self.says(("s", "unpin x", "none"), ("s", "pinned x", "none"), ("s", "pin x count", "ok"),
                  ("t", "pin y span a c", "ok"), ("s", "pin z view", "ok"), ("s", "pin x view", "twice"),
                  ("s", "pin w view", "full"), ("s", "pinned x", "0"), ("s", 'do put a 1 2 3 "red"', "new"),
                  ("t", "pinned x", "1"), ("s", "pinned y", "a"), ("s", "pinned z", "3 1 1 2"),
                  ("s", "pinned w", "none"),
                  ("s", "unpin w", "none"), ("s", "unpin x", "ok"), ("s", "pin w get a", "ok"),
                  ("s", "pinned w", '1 2 3 "red"'))

    def test_edges(self):
        self.begin()
        for key in ["a", "b", "c", "d"]:
            self.says(("s", f'do put {key} 1 1 1 ""', "new"))
        self.says(("s", "link a 0 none", "none"), ("s", "link none 0 a", "none"), ("s", "link x 0 x", "none"),
                  ("s", "unlink a 0 b", "none"), ("s", "unlink x 0 y", "none"), ("s", "out a", "-"),
                  ("s", "out x", "-"),
                  ("s", "way a a", "a"), ("s", "way x x", "none"), ("s", "way a b", "none"), ("s", "link a 3 b", "new"),
                  ("s", "link a 3 b", "twice"), ("s", "link a 0 d", "new"), ("s", "link a 0 c", "new"),
                  ("s", "link b 1 d", "new"), ("s", "link d 2 a", "new"), ("s", "out a", "0:c 0:d 3:b"),
                  ("s", "way a d", "a d"), ("s", "way d b", "d a b"), ("s", "way c a", "none"),
                  ("s", "way a x", "none"),
                  ("s", "unlink a 0 d", "ok"), ("s", "way a d", "a b d"), ("s", "unlink a 0 d", "none"))

    def test_24_edges_and_one_more(self):
        self.begin()
        for key in ["a", "b", "c"]:
            self.says(("s", f'do put {key} 1 1 1 ""', "new"))
        rows = [f"{a} {kind} {b}" for a in "abc" for kind in range(4) for b in "abc"]
        for row in rows[:24]:
            self.says(("s", f"link {row}", "new"))
        self.says(("s", f"link {rows[24]}", "full"), ("s", f"link {rows[0]}", "twice"), ("s", "link a 0 x", "none"),
                  ("s", f"unlink {rows[3]}", "ok"), ("s", f"link {rows[24]}", "new"), ("s", f"link {rows[3]}", "full"))

    def test_effects_by_hand(self):
        hall = Hall(5)
        for line, answered, has_effect in [
                ('do put a 1 1 1 ""', "new", True), ("snap x", "ok", True), ("snap x", "twice", False),
                ("unsnap x", "ok", True), ("unsnap x", "none", False), ("pin x count", "ok", True),
                ("pin x count", "twice", False), ("pinned x", "1", False), ("unpin x", "ok", True),
                ("unpin x", "none", False), ("link a 0 a", "new", True), ("link a 0 a", "twice", False),
                ("link a 0 b", "none", False), ("unlink a 0 a", "ok", True), ("unlink a 0 a", "none", False),
                ("do hold a me", "ok", True), ("erase a", "held", False), ("do free a me", "ok", True),
                ("erase a", "erased", True), ("erase a", "erased", True), ("begin", "ok", False),
                ("abort", "ok", False),
                ("leave", "ok", False), ("commit", "none", False), ("log", "-", False)]:
            self.assertEqual(hall.run("s", line), (answered, [line] * has_effect))


class TestErase(RunCase):
    def test_where_a_holder_counts(self):
        self.begin()
        self.says(("s", 'do put a 1 1 1 "x"', "new"), ("s", "do hold a me", "ok"), ("t", "begin", "ok"),
                  ("s", "snap x", "ok"), ("s", "erase a", "held"), ("t", "do free a me", "ok"),
                  ("s", "erase a", "held"),
                  ("s", "do free a me", "ok"), ("s", "erase a", "held"), ("s", "unsnap x", "ok"),
                  ("u", "erase a", "erased"), ("t", "do get a", "none"), ("t", "commit", "done 0"))

    def test_an_own_store(self):
        self.begin()
        self.says(("t", "begin", "ok"), ("t", 'do put a 1 1 1 "x"', "new"), ("t", "do hold a me", "ok"),
                  ("s", "erase a", "held"), ("t", "do free a me", "ok"), ("s", "erase a", "erased"),
                  ("t", "commit", "done 0"), ("s", "do get a", "none"))

    def test_a_key_that_is_nowhere(self):
        self.begin()
        self.says(("s", 'do put a 1 1 1 "b"', "new"), ("s", "do hold a b", "ok"), ("s", "snap b", "ok"),
                  ("s", "pin b count", "ok"), ("b", "begin", "ok"))
        before = self.hall.image()
        self.assertEqual(self.hall.run("s", "erase b"), ("erased", ["erase b"]))
        self.assertEqual(self.hall.image(), before)

    def test_everything_of_a_key_goes(self):
        self.begin()
        for line in ['do put a 1 1 1 "x"', 'do put b 1 1 1 "x"', "link a 0 b", "link b 0 b", "link b 1 a", "snap x",
                     "pin p get a", "pin q span a b", 'pin r ask "x"', "do free b a"]:
            self.run_both("s", line)
        self.says(("t", "begin", "ok"), ("t", "do drop a", "gone"), ("t", "do drop b", "gone"),
                  ("s", "pinned r", "a b"),
                  ("s", "erase a", "erased"), ("s", "pinned p", "none"), ("s", "pinned q", "none"),
                  ("s", "pinned r", "b"),
                  ("s", "at x span 0 z", "b"), ("s", "out b", "0:b"), ("s", "log", 'put b 1 1 1 "x"'),
                  ("t", "commit", "done 1"))


if __name__ == "__main__":
    unittest.main()
