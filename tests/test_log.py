"""The log: points 6.2, 6.15, 6.16 and 6.20."""

import random
import unittest

from lethe import log as module
from lethe.errors import BadForm, Full
from lethe.log import Log, load_log
from tests.plain import Case, near_texts, plain_pack, plain_unpack
from tests.plain_store import plain_line, plain_spoken, random_change
from tests.test_lines import good_lines

SOME = ['put a 1 2 3 "b; c"', "hold a me", "drop a", 'put b 0 0 0 ""', "free a me", "hold b a", "drop b", "drop b"]
KEYS = ["a", "b", "c", "ab", "zz9z", "0"]


def log_of(lines):
    log = Log()
    for line in lines:
        log.note(line)
    return log


def is_change(line):
    return plain_line(line) is not None and plain_line(line)[0] in ("put", "drop", "hold", "free")


class LogCase(Case):
    def check_is(self, log, lines):
        self.assertEqual(log.lines(), lines)
        self.assertEqual(log.room(), 24 - len(lines))
        self.assertEqual(log.image(), plain_pack(lines))
        counts = [sum(line.startswith(word + " ") for line in lines) for word in ["put", "drop", "hold", "free"]]
        self.assertEqual(log.stats(), "put {} drop {} hold {} free {}".format(*counts))


class TestLog(LogCase):
    def test_constant(self):
        self.assertEqual(module.MAX_LOG, 24)

    def test_empty(self):
        self.check_is(Log(), [])
        self.assertEqual(Log().image(), "")
        self.assertEqual(Log().stats(), "put 0 drop 0 hold 0 free 0")
        self.assertEqual(Log().erase("a"), 0)

    def test_by_hand(self):
        log = log_of(SOME)
        self.check_is(log, SOME)
        self.assertEqual(log.stats(), "put 2 drop 3 hold 2 free 1")
        self.assertEqual(log_of(["drop a", "drop b"]).image(), "6:drop a6:drop b")

    def test_twenty_four_lines_and_one_more(self):
        log, lines = Log(), []
        for k in range(24):
            self.assertEqual(log.room(), 24 - k)
            lines.append(f"drop {k}")
            self.assertIsNone(log.note(lines[-1]))
            self.check_is(log, lines)
        for line in ["drop a", "drop 0"]:
            self.fails(Full, log.note, line)
        self.check_is(log, lines)
        self.assertEqual(log.erase("5"), 1)
        log.note("drop a")
        self.fails(Full, log.note, "drop b")
        self.check_is(log, lines[:5] + lines[6:] + ["drop a"])

    def test_erase(self):
        for key in ["a", "b", "me", "none", "0", "", "A"]:
            log = log_of(SOME)
            left = [line for line in SOME if key not in plain_spoken(line)]
            self.assertEqual(log.erase(key), len(SOME) - len(left))
            self.check_is(log, left)
            self.assertEqual(log.erase(key), 0)
        self.assertEqual(log_of(SOME).erase("a"), 4)
        self.assertEqual(log_of(SOME).erase("me"), 0)

    def test_long_history(self):
        choice = random.Random(615)
        log, lines = Log(), []
        for _ in range(600):
            line = random_change(choice, KEYS)
            if choice.random() < 0.1:
                key = choice.choice(KEYS)
                left = [line for line in lines if key not in plain_spoken(line)]
                self.assertEqual(log.erase(key), len(lines) - len(left))
                lines = left
            elif len(lines) == 24:
                self.fails(Full, log.note, line)
            else:
                lines.append(line)
                log.note(line)
            self.check_is(log, lines)

    def test_a_returned_list_is_new(self):
        log = log_of(SOME)
        log.lines().clear()
        self.check_is(log, SOME)


class TestLoadLog(LogCase):
    def check_text(self, text):
        lines = plain_unpack(text)
        if lines is None or len(lines) > 24 or not all(is_change(line) for line in lines):
            self.fails(BadForm, load_log, text)
            return False
        self.check_is(load_log(text), lines)
        return True

    def test_what_was_written_is_read(self):
        choice = random.Random(616)
        for many in range(27):
            lines = [random_change(choice, KEYS) for _ in range(many)]
            self.assertIs(self.check_text(plain_pack(lines)), many <= 24)
        self.assertTrue(self.check_text(""))

    def test_a_loaded_log_goes_on(self):
        log = load_log(plain_pack(SOME))
        self.assertEqual(log.erase("b"), 4)
        log.note("drop c")
        self.check_is(log, SOME[:3] + SOME[4:5] + ["drop c"])
        log = load_log(plain_pack(["drop a"] * 24))
        self.fails(Full, log.note, "drop a")

    def test_near_texts(self):
        good = 0
        for lines in [["drop a"], ['put a 1 2 3 "b"', "hold a b"], []]:
            for text in near_texts(plain_pack(lines), 'a16:" z'):
                good += self.check_text(text)
        self.assertGreater(good, 20)

    def test_each_line(self):
        for line in good_lines():
            self.assertIs(self.check_text(plain_pack([line])), is_change(line))
            self.assertIs(self.check_text(plain_pack(["drop a", line, "drop b"])), is_change(line))

    def test_no_changes(self):
        for line in ["", "get a", "count", "drop", "drop A", "drop  a", "drop a ", "put a 1 2 3 red", "do drop a",
                     "erase a", "forget a", "hold a", "free a me you", "link a 1 b", "drop a; drop b"]:
            for lines in [[line], ["drop a", line], [line, "drop a"]]:
                self.assertFalse(self.check_text(plain_pack(lines)))

    def test_no_packed_text(self):
        for text in ["drop a", ":", "6:drop", "06:drop a", "7:drop a", "6:drop a;", "0:"]:
            self.assertFalse(self.check_text(text))


if __name__ == "__main__":
    unittest.main()
