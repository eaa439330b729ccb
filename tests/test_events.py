"""Events and their texts: points 10.2 and 10.12."""

import re
import unittest

from lethe.errors import BadForm
from lethe.events import event_text, read_event
from tests.plain import Case, near_texts

NUMBER = "(0|[1-9][0-9]{0,8})"
WORD = "([^ ]+)"
PATTERNS = {"say": [WORD, "(.*)"], "ask": [WORD], "deliver": [NUMBER], "lose": [NUMBER], "double": [NUMBER],
            "backup": [WORD, WORD], "discard": [WORD, WORD], "tend": [WORD], "away": [WORD], "back": [WORD],
            "power": [WORD, "(-1|0|[1-9][0-9]{0,8})", NUMBER], "restart": [WORD]}

EVENTS = [("say", "s", 'do put a 1 1 1 "red  fox"'), ("say", "s", ""), ("say", "S!", " log "), ("say", "say", "say"),
          ("ask", "t1"), ("deliver", 0), ("lose", 7), ("double", 999999999), ("backup", "v1", "g"),
          ("backup", "nowhere", "abc"), ("discard", "v3", "0"), ("tend", "v1"), ("away", "home"), ("back", "t9"),
          ("power", "home", -1, 0), ("power", "t1", 0, 63), ("power", "x", 100001, 64),
          ("power", "v1", 999999999, 999999999), ("restart", "home"), ("restart", "\"")]


def plain_event(line):
    """Return the tuple of a text, or None, by a pattern for each event."""
    for word, patterns in PATTERNS.items():
        found = re.fullmatch(" ".join([word] + patterns), line)
        if found:
            values = [int(text) if NUMBER[1:] in pattern or "-1" in pattern else text
                      for text, pattern in zip(found.groups(), patterns)]
            return (word, *values)
    return None


class EventsCase(Case):
    def check(self, line):
        """Check a line against the plain reading of it; tell whether it is the text of an event."""
        event = plain_event(line)
        if event is None:
            self.fails(BadForm, read_event, line)
        else:
            self.assertEqual(read_event(line), event, line)
            self.assertEqual([type(part) for part in read_event(line)], [type(part) for part in event])
            self.assertEqual(event_text(event), line)
        return event is not None


class TestEventText(EventsCase):
    def test_each_kind(self):
        self.assertEqual({event[0] for event in EVENTS}, set(PATTERNS))
        for event in EVENTS:
            text = " ".join(str(part) for part in event)
            self.assertEqual(event_text(event), text)
            self.assertEqual(read_event(text), event)
            self.assertTrue(self.check(text))

    def test_by_hand(self):
        for event, text in [(("say", "s", "log"), "say s log"), (("say", "s", ""), "say s "),
                            (("power", "home", -1, 0), "power home -1 0"), (("deliver", 12), "deliver 12"),
                            (("backup", "v1", "g"), "backup v1 g"), (("say", "s", " a  b "), "say s  a  b ")]:
            self.assertEqual(event_text(event), text)
            self.assertEqual(read_event(text), event)

    def test_whatever_its_first_word(self):
        for event, text in [(("jump",), "jump"), (("jump", "x", 3), "jump x 3"), (("", ""), " "),
                            (("SAY", "s"), "SAY s"),
                            (("deliver", -1), "deliver -1"), (("settle",), "settle")]:
            self.assertEqual(event_text(event), text)
            self.fails(BadForm, read_event, text)


class TestReadEvent(EventsCase):
    def test_near_texts(self):
        good = 0
        for event in EVENTS:
            for text in near_texts(event_text(event), "a01- \""):
                good += self.check(text)
        self.assertGreater(good, 200)

    def test_words_exchanged_left_out_and_put_in(self):
        others = ["", "0", "-1", "00", "01", "-0", "-2", "+1", "1.0", "999999999", "1000000000", "0999999999", "x",
                  "t1",
                  "home", "say", "power", "deliver", "ask", "DELIVER", "1e3", "a b"]
        for event in EVENTS:
            words = event_text(event).split(" ")
            for k in range(len(words) + 1):
                self.check(" ".join(words[:k] + words[k + 1:]))
                for other in others:
                    self.check(" ".join(words[:k] + [other] + words[k + 1:]))
                    self.check(" ".join(words[:k] + [other] + words[k:]))

    def test_spaces(self):
        for line, good in [("", False), (" ", False), ("say", False), ("say ", False), ("say s", False),
                           ("say s ", True),
                           ("say  s", False), ("say  ", False), ("say   ", False), (" say s log", False),
                           ("say s  log", True), ("say s log ", True), ("ask t1 ", False), ("ask  t1", False),
                           ("ask ", False), ("ask", False), (" ask t1", False), ("backup v1", False),
                           ("backup v1 ", False), ("backup  g", False), ("backup v1 g ", False),
                           ("backup v1  g", False),
                           ("power home 0 0 ", False), ("power home 0  0", False), ("tend v1 v2", False)]:
            self.assertIs(self.check(line), good, line)

    def test_numbers(self):
        for number, good in [("0", True), ("9", True), ("10", True), ("100000000", True), ("999999999", True),
                             ("1000000000", False), ("9999999999", False), ("00", False), ("01", False),
                             ("0000000001", False), ("-0", False), ("-2", False), ("+1", False), ("", False),
                             ("1 ", False), ("a", False)]:
            for word in ["deliver", "lose", "double"]:
                self.assertIs(self.check(f"{word} {number}"), good)
            self.assertIs(self.check(f"power home {number} 0"), good)
            self.assertIs(self.check(f"power home 0 {number}"), good)

    def test_where_minus_1_stands(self):
        for line, good in [("power home -1 0", True), ("power home -1 63", True), ("power home 0 -1", False),
                           ("power home -1 -1", False), ("power -1 -1 0", True), ("deliver -1", False),
                           ("lose -1", False), ("double -1", False), ("ask -1", True), ("backup v1 -1", True),
                           ("power home -01 0", False), ("power home --1 0", False), ("power home -1", False)]:
            self.assertIs(self.check(line), good, line)


if __name__ == "__main__":
    unittest.main()
