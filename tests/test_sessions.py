"""Transactions: points 6.2, 6.6, 6.7, 6.9 (1 and 2), 6.16 and 6.26."""

import random
import unittest

from lethe import sessions as module
from lethe.sessions import Transaction
from lethe.store import store_of_map
from tests.plain import Case, plain_pack
from tests.plain_hall import PlainTransaction
from tests.plain_store import PlainStore, plain_spoken, random_change, random_question
from tests.test_store import FULL, SOME, plain_of, store_of

KEYS = ["a", "b", "b1", "c", "zz9z", "0", "7"]


def begun(seed, lines):
    """Return a transaction and a plain one that begin with the records behind some lines."""
    plain = plain_of(seed, lines)
    return Transaction(seed, plain.map_image()), PlainTransaction(plain)


class SessionCase(Case):
    def check_is(self, transaction, plain):
        self.assertEqual(transaction.noted(), plain.noted)
        self.assertEqual(transaction.images(), plain.images())
        for key in KEYS + ["none", "me", "", "A", "1:a"]:
            record = plain.own.records.get(key)
            self.assertIs(transaction.held(key), record is not None and record["holders"] != [])

    def run_both(self, transaction, plain, line):
        answered = transaction.run(line)
        self.assertEqual(answered, plain.run(line), line)
        return answered

    def check_conflict(self, before, lines, between, expected):
        """Begin behind some lines, run others in the transaction, and others in the hall's store."""
        transaction, plain = begun(5, before)
        for line in lines:
            self.run_both(transaction, plain, line)
        store = store_of(5, before + between)
        images = [store.map_image(), store.index_image(), store.points_image()]
        self.assertIs(transaction.conflicts(store), expected, (lines, between))
        self.assertIs(plain.conflicts(plain_of(5, before + between)), expected, (lines, between))
        self.assertEqual([store.map_image(), store.index_image(), store.points_image()], images)
        self.check_is(transaction, plain)


class TestTransaction(SessionCase):
    def test_constants(self):
        self.assertEqual((module.MAX_SESSIONS, module.MAX_NOTED), (3, 8))

    def test_a_new_one(self):
        for lines in [[], SOME, FULL]:
            transaction, plain = begun(5, lines)
            self.check_is(transaction, plain)
            image = plain_of(5, lines).map_image()
            self.assertEqual(transaction.images(), [image, image, ""])
            self.assertIs(transaction.conflicts(store_of(5, lines)), False)

    def test_by_hand(self):
        transaction, _ = begun(5, ['put a 1 2 3 "x"'])
        rows = [("hold a me", "ok"), ("drop a", "due"), ("drop a", "due"), ('put b 1 1 1 ""', "new"),
                ("free a me", "gone")]
        for line, answered in rows:
            self.assertEqual(transaction.run(line), answered)
        for line, answered in [("get a", "none"), ("drop a", "none"), ("free b me", "free"), ("count", "1"),
                               ("view", "1 1 1 1")]:
            self.assertEqual(transaction.run(line), answered)
        self.assertEqual(transaction.noted(), rows)
        base, own = plain_of(5, ['put a 1 2 3 "x"']).map_image(), plain_of(5, ['put b 1 1 1 ""']).map_image()
        packed = "9:hold a me2:ok6:drop a3:due6:drop a3:due14:put b 1 1 1 \"\"3:new9:free a me4:gone"
        self.assertEqual(transaction.images(), [base, own, packed])

    def test_what_is_not_done_is_not_noted(self):
        transaction, plain = begun(5, SOME)
        for line in ["drop none", "hold none me", "free a you", "hold a me", 'put c 1 2 3 "x"', "free none me", "count",
                     "get a", "hold c us", 'ask "red"']:
            self.run_both(transaction, plain, line)
        self.assertEqual(transaction.noted(), [])
        self.check_is(transaction, plain)
        for line in ["drop c", 'put a 1 2 3 "x"', "hold a you", "free c me", "drop b1"]:
            self.run_both(transaction, plain, line)
        self.assertEqual([line for line, _ in transaction.noted()],
                         ["drop c", 'put a 1 2 3 "x"', "hold a you", "free c me", "drop b1"])

    def test_a_put_that_is_full(self):
        transaction, plain = begun(5, FULL)
        self.assertEqual(self.run_both(transaction, plain, 'put new 1 2 3 ""'), "full")
        self.assertEqual(transaction.noted(), [])
        self.check_is(transaction, plain)

    def test_eight_noted_lines_and_one_more(self):
        transaction, plain = begun(5, SOME)
        for k in range(8):
            self.assertEqual(self.run_both(transaction, plain, f'put a {k} 0 0 ""'), "changed")
        self.assertEqual(len(transaction.noted()), 8)
        # A change is not run, whether it would be done or not; a question is answered.
        for line in ['put a 9 9 3 "x"', "drop none", "drop a", "hold a me", 'put new 1 2 3 ""', "free a you"]:
            self.assertEqual(self.run_both(transaction, plain, line), "full")
        self.assertEqual(self.run_both(transaction, plain, "get a"), '7 0 0 "" held 1')
        self.check_is(transaction, plain)

    def test_long_history(self):
        choice = random.Random(607)
        for seed in [0, 5, 999999]:
            for _ in range(12):
                lines = [random_change(choice, KEYS) for _ in range(choice.randrange(30))]
                transaction, plain = begun(seed, lines)
                for _ in range(20):
                    self.run_both(transaction, plain, random_change(choice, KEYS))
                    self.run_both(transaction, plain, random_question(choice, KEYS))
                    if choice.random() < 0.05:
                        self.erase_both(transaction, plain, choice.choice(KEYS))
                    self.check_is(transaction, plain)

    def erase_both(self, transaction, plain, key):
        self.assertIsNone(transaction.erase(key))
        plain.own.erase(key)
        plain.base.erase(key)
        plain.noted = [row for row in plain.noted if key not in plain_spoken(row[0])]

    def test_erase(self):
        lines = ['put a 9 9 1 "a"', "drop b1", 'put b 1 1 1 "zz"', "hold b a", "free c me", "drop zz9z"]
        for key in KEYS + ["me", "none", "zz", "", "A"]:
            transaction, plain = begun(5, SOME)
            for line in lines:
                self.run_both(transaction, plain, line)
            self.erase_both(transaction, plain, key)
            self.check_is(transaction, plain)
        transaction, plain = begun(5, SOME)
        transaction.run("drop b1")
        transaction.erase("b1")
        self.assertEqual(transaction.noted(), [])
        self.assertEqual(transaction.images()[0], plain_of(5, SOME + ["drop b1"]).map_image())

    def test_returned_lists_are_new(self):
        transaction, plain = begun(5, SOME)
        self.run_both(transaction, plain, "drop b1")
        transaction.noted().clear()
        transaction.images().clear()
        self.check_is(transaction, plain)


class TestConflicts(SessionCase):
    def test_none(self):
        for lines in [[], ["drop b1"], ['put new 1 2 3 "x"'], ["hold a you", "drop a"], ["free a me", "drop a"]]:
            self.check_conflict(SOME, lines, [], False)
            self.check_conflict(SOME, lines, ['put zz9z 1 1 1 "y"'], False)
            self.check_conflict(SOME, lines, ['put other 1 1 1 "y"', "drop zz9z", "hold c us"], False)

    def test_a_record_that_came_or_went(self):
        self.check_conflict(SOME, ['put new 1 2 3 "x"'], ['put new 9 9 0 "y"'], True)
        self.check_conflict(SOME, ['put new 1 2 3 "x"'], ['put new 1 2 3 "x"'], True)
        self.check_conflict(SOME, ["drop b1"], ["drop b1"], True)
        self.check_conflict(SOME, ['put b1 1 2 3 "x"'], ["drop b1"], True)
        self.check_conflict(SOME, ["hold b1 me", "drop zz9z"], ["drop zz9z"], True)

    def test_a_record_that_changed(self):
        for line in ['put b1 1 99 0 "The RED house"', 'put b1 0 98 0 "The RED house"', 'put b1 0 99 1 "The RED house"',
                     'put b1 0 99 0 "the RED house"', "hold b1 me"]:
            self.check_conflict(SOME, ["drop b1"], [line], True)
            self.check_conflict(SOME, ['put zz9z 1 1 1 ""', 'put b1 0 0 0 ""'], [line], True)
            self.check_conflict(SOME, ['put zz9z 1 1 1 ""', "get b1", "count"], [line], False)
        self.check_conflict(SOME, ["hold a you"], ["drop a"], True)
        self.check_conflict(SOME, ["hold a you"], ["free a me"], True)
        self.check_conflict(SOME, ["hold a you"], ["hold a us"], True)
        self.check_conflict(SOME, ["free a me"], ["free a me", "hold a us"], True)

    def test_a_record_that_is_as_it_was(self):
        self.check_conflict(SOME, ["drop b1"], ["hold b1 me", "free b1 me"], False)
        self.check_conflict(SOME, ["hold a you"], ["hold a us", "free a us"], False)
        self.check_conflict(SOME, ["hold a you"], ["free a me", "hold a me"], False)
        self.check_conflict(SOME, ["drop b1"], ["drop b1", 'put b1 0 99 0 "The RED house"'], False)
        self.check_conflict(SOME, ['put new 1 2 3 ""'], ['put new 5 5 1 "x"', "drop new"], False)
        two = ['put a 1 2 3 ""', "hold a me", "hold a you"]
        self.check_conflict(two, ["drop a"], ["free a me", "hold a me"], False)

    def test_a_record_that_only_a_question_spoke_of(self):
        for line in ["get b1", "rank b1", "span b1 zz9z", "receipt b1", "check b1 5", 'ask "red"', "in 0 0 99 99",
                     "count"]:
            self.check_conflict(SOME, [line], ["drop b1"], False)
            self.check_conflict(SOME, [line, "drop zz9z"], ['put b1 1 1 1 "x"'], False)

    def test_a_change_that_was_not_done(self):
        self.check_conflict(SOME, ["free b1 me", "drop none"], ["drop b1", 'put none 1 1 1 ""'], False)

    def test_a_record_that_is_the_same_again_in_the_own_store(self):
        self.check_conflict(SOME, ["hold b1 me", "free b1 me"], ["drop b1"], True)
        self.check_conflict(SOME, ['put new 1 1 1 ""', "drop new"], ['put new 1 1 1 ""'], True)

    def test_answers_that_would_differ(self):
        seven = FULL[:7]
        self.check_conflict(seven, ['put new 1 2 3 ""'], ['put more 1 1 1 ""'], True)
        self.check_conflict(seven, ['put new 1 2 3 ""'], ['put more 1 1 1 ""', "drop 0"], False)
        self.check_conflict(seven, ["drop 1", 'put new 1 2 3 ""'], ['put more 1 1 1 ""'], False)
        self.check_conflict(seven, ['put new 1 2 3 ""', "drop 1"], ['put more 1 1 1 ""'], True)
        self.check_conflict(seven, ['put new 1 2 3 ""', "drop new"], ['put more 1 1 1 ""'], True)
        self.check_conflict(FULL, ["drop 0", 'put new 1 2 3 ""'], ["drop 1", 'put more 1 1 1 ""'], False)

    def test_against_plain_stores(self):
        choice = random.Random(609)
        seen = {True: 0, False: 0}
        for _ in range(300):
            lines = [random_change(choice, KEYS + ["m", "n", "k1"]) for _ in range(choice.randrange(5, 40))]
            transaction, plain = begun(5, lines)
            for _ in range(choice.randrange(5)):
                self.run_both(transaction, plain, random_change(choice, KEYS))
            store = plain_of(5, lines + [random_change(choice, KEYS) for _ in range(choice.randrange(4))])
            expected = plain.conflicts(store)
            seen[expected] += 1
            self.assertIs(transaction.conflicts(store_of_map(5, store.map_image())), expected)
            self.check_is(transaction, plain)
        self.assertGreater(min(seen.values()), 30)

    def test_behind_an_erase(self):
        transaction, _ = begun(5, SOME)
        transaction.run("drop b1")
        transaction.run('put zz9z 1 1 1 ""')
        store = store_of(5, SOME + ["drop b1"])
        self.assertIs(transaction.conflicts(store), True)
        transaction.erase("b1")
        self.assertIs(transaction.conflicts(store), False)
        self.assertEqual(transaction.images()[2], plain_pack(['put zz9z 1 1 1 ""', "changed"]))

    def test_of_nothing(self):
        transaction = Transaction(5, "0;")
        self.assertIs(transaction.conflicts(store_of(5, FULL)), False)
        self.assertEqual(transaction.images(), ["0;", "0;", ""])
        self.assertEqual(PlainStore(5).map_image(), "0;")


if __name__ == "__main__":
    unittest.main()
