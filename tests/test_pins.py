"""Pins: points 6.2, 6.11, 6.16, 6.17 and 6.20."""

import random
import unittest

from lethe import pins as module
from lethe.errors import BadForm, Full, Missing, Twice
from lethe.pins import Pins, load_pins
from lethe.store import store_of_map
from tests.plain import Case, near_texts, plain_pack, plain_unpack
from tests.plain_store import plain_line, plain_spoken, random_change, random_question
from tests.test_lines import good_lines
from tests.test_snaps import NO_NAMES
from tests.test_store import FULL, SOME, plain_of, store_of

KEYS = ["a", "b", "b1", "c", "zz9z", "0", "7"]
THREE = {"x": "get a", "0": "span a c", "ab": 'ask "red"'}


def pins_of(lines):
    pins = Pins()
    for name in lines:
        pins.keep(name, lines[name])
    return pins


def plain_image(lines, plain):
    return plain_pack([text for name in sorted(lines) for text in (name, lines[name], plain.run(lines[name]))])


def is_question(line):
    return plain_line(line) is not None and plain_line(line)[0] not in ("put", "drop", "hold", "free")


class PinsCase(Case):
    def check_is(self, pins, lines):
        self.assertEqual(pins.names(), sorted(lines))
        for name in lines:
            self.assertEqual(pins.line_of(name), lines[name])
        for name in {"none", "", "A", "a"} - set(lines):
            self.fails(Missing, pins.line_of, name)
        for rows in [[], SOME, FULL]:
            store = store_of(5, rows)
            self.assertEqual(pins.image(store), plain_image(lines, plain_of(5, rows)))
            self.assertEqual(store.map_image(), plain_of(5, rows).map_image())


class TestPins(PinsCase):
    def test_constant(self):
        self.assertEqual(module.MAX_PINS, 3)

    def test_empty(self):
        self.check_is(Pins(), {})
        self.assertEqual(Pins().image(store_of(5, SOME)), "")
        self.assertIsNone(Pins().erase("a"))

    def test_keep(self):
        pins, lines = Pins(), {}
        for name in THREE:
            lines[name] = THREE[name]
            self.assertIsNone(pins.keep(name, lines[name]))
            self.check_is(pins, lines)
        self.assertEqual(pins_of({"p": "count"}).image(store_of(5, SOME)), "1:p5:count1:4")

    def test_twice_and_full(self):
        pins = pins_of(THREE)
        for line in ["count", "get a"]:
            for name in THREE:
                self.fails(Twice, pins.keep, name, line)
            self.fails(Full, pins.keep, "new", line)
        self.check_is(pins, THREE)
        pins = pins_of({"x": "count"})
        self.fails(Twice, pins.keep, "x", "view")
        self.check_is(pins, {"x": "count"})

    def test_remove_one(self):
        pins = pins_of(THREE)
        for name in ["none", "", "X", "a"]:
            self.fails(Missing, pins.remove_one, name)
        self.check_is(pins, THREE)
        self.assertIsNone(pins.remove_one("0"))
        self.check_is(pins, {"x": THREE["x"], "ab": THREE["ab"]})
        self.fails(Missing, pins.remove_one, "0")
        pins.keep("new", "view")
        self.check_is(pins, {"x": THREE["x"], "ab": THREE["ab"], "new": "view"})

    def test_erase(self):
        for line in good_lines():
            if is_question(line):
                for key in ["a", "b", "red", "x", "0", "99", "me", "none", "", "A"]:
                    lines = {"x": line, "a": "get zz", "b": "view"}
                    pins = pins_of(lines)
                    self.assertIsNone(pins.erase(key))
                    left = {name: lines[name] for name in lines if key not in plain_spoken(lines[name])}
                    self.assertEqual(pins.names(), sorted(left))
        pins = pins_of({"x": "get a", "y": "span b a", "z": "rank a"})
        pins.erase("a")
        self.check_is(pins, {})

    def test_long_history(self):
        choice = random.Random(612)
        pins, lines = Pins(), {}
        for step in range(300):
            name, line = choice.choice(["x", "y", "xy", "0", "a"]), random_question(choice, KEYS)
            turn = choice.random()
            if turn < 0.1:
                key = choice.choice(KEYS)
                pins.erase(key)
                lines = {name: lines[name] for name in lines if key not in plain_spoken(lines[name])}
            elif turn < 0.4 and name in lines:
                del lines[name]
                pins.remove_one(name)
            elif name in lines:
                self.fails(Twice, pins.keep, name, line)
            elif len(lines) == 3:
                self.fails(Full, pins.keep, name, line)
            else:
                lines[name] = line
                pins.keep(name, line)
            if step % 10 == 0:
                self.check_is(pins, lines)

    def test_answers_follow_the_store(self):
        choice = random.Random(613)
        store, plain = store_of(5, SOME), plain_of(5, SOME)
        pins = pins_of(THREE)
        for _ in range(60):
            line = random_change(choice, KEYS)
            store.run(line)
            plain.run(line)
            self.assertEqual(pins.image(store), plain_image(THREE, plain))

    def test_a_returned_list_is_new(self):
        pins = pins_of(THREE)
        pins.names().clear()
        self.check_is(pins, THREE)


class TestLoadPins(PinsCase):
    def check_text(self, text, rows):
        """Check load_pins with any text and a store; tell whether there are such pins."""
        plain, store = plain_of(5, rows), store_of(5, rows)
        parts = plain_unpack(text)
        good = parts is not None and len(parts) in (0, 3, 6, 9)
        names = parts[::3] if good else []
        good = good and names == sorted(set(names)) and all(plain_line(f"get {name}") for name in names)
        good = good and all(is_question(line) for line in parts[1::3])
        good = good and all(plain.run(line) == answered for line, answered in zip(parts[1::3], parts[2::3]))
        if good:
            self.check_is(load_pins(text, store), dict(zip(names, parts[1::3])))
        else:
            self.fails(BadForm, load_pins, text, store)
        self.assertEqual(store.map_image(), plain.map_image())
        return good

    def test_what_was_written_is_read(self):
        for lines in [{}, {"x": "count"}, THREE, {"a": "view", "ab": "get a", "b": "receipt zz"}]:
            for rows in [[], SOME, FULL]:
                self.assertTrue(self.check_text(plain_image(lines, plain_of(5, rows)), rows))

    def test_loaded_pins_go_on(self):
        pins = load_pins(plain_image(THREE, plain_of(5, SOME)), store_of(5, SOME))
        self.fails(Full, pins.keep, "new", "count")
        pins.erase("a")
        pins.keep("new", "count")
        self.check_is(pins, {"ab": THREE["ab"], "new": "count"})

    def test_near_texts(self):
        for lines in [{}, {"x": "count"}, {"x": "get a", "y": "rank b"}, {"p": "span a c"}]:
            for text in near_texts(plain_image(lines, plain_of(5, SOME)), 'ax0145: z'):
                self.check_text(text, SOME)

    def test_names(self):
        for name in NO_NAMES:
            self.assertFalse(self.check_text(plain_pack([name, "count", "0"]), []))
            self.assertFalse(self.check_text(plain_pack(["0", "count", "0", name, "count", "0"]), []))
        for first, second in [("y", "x"), ("x", "x"), ("ab", "a"), ("a", "0"), ("x", "y")]:
            text = plain_pack([first, "count", "0", second, "view", "-"])
            self.assertIs(self.check_text(text, []), first < second)

    def test_lines_that_are_no_questions(self):
        for line in good_lines():
            answered = plain_of(5, SOME).run(line)
            self.assertIs(self.check_text(plain_pack(["x", line, answered]), SOME), is_question(line))
        for line in ["", "get", "get A", "log", "do count", "count ", "out a", "pinned x", "bad", "drop a",
                     "free a me"]:
            for answered in ["bad", "none", "", "-", plain_of(5, SOME).run(line)]:
                self.assertFalse(self.check_text(plain_pack(["x", line, answered]), SOME))

    def test_answers_of_another_store(self):
        for line, answered in [("count", "3"), ("count", "04"), ("count", ""), ("get a", "none"),
                               ("get a", '3 4 2 "red fox"'), ("view", "-"), ("span a c", "a"), ("span a c", "b1 a"),
                               ("near 0 0 2", "c a")]:
            self.assertFalse(self.check_text(plain_pack(["x", line, answered]), SOME))
        self.assertTrue(self.check_text(plain_pack(["x", "count", "4"]), SOME))
        image = plain_image(THREE, plain_of(5, SOME))
        self.fails(BadForm, load_pins, image, store_of(5, FULL))
        self.fails(BadForm, load_pins, image, store_of_map(5, "0;"))

    def test_parts(self):
        for parts in [["x"], ["x", "count"], ["x", "count", "0", "y"], ["x", "count", "0", "y", "view"],
                      ["count", "x", "0"], ["x", "0", "count"], [""], ["", "", ""], ["x", "count", "0", "0"]]:
            self.assertFalse(self.check_text(plain_pack(parts), []))
        for text in ["x", "1:x", "1:x5:count", "01:x5:count1:0", "1:x5:count1:0;"]:
            self.assertFalse(self.check_text(text, []))

    def test_more_than_three(self):
        row = ["count", "0"]
        self.assertTrue(self.check_text(plain_pack(["a"] + row + ["b"] + row + ["c"] + row), []))
        self.assertFalse(self.check_text(plain_pack(["a"] + row + ["b"] + row + ["c"] + row + ["d"] + row), []))


if __name__ == "__main__":
    unittest.main()
