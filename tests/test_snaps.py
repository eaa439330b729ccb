"""Snapshots: points 6.2, 6.10, 6.16 and 6.20."""

import random
import unittest

from lethe import snaps as module
from lethe.errors import BadForm, Full, LetheError, Missing, Twice
from lethe.snaps import Snaps, load_snaps
from lethe.store import store_of_map
from tests.plain import Case, near_texts, plain_pack, plain_tree_image, plain_unpack
from tests.plain_store import PlainStore, plain_line, random_change, random_question
from tests.test_store import FULL, SOME, plain_of

KEYS = ["a", "b", "b1", "c", "zz9z", "0", "7"]
NO_NAMES = ["", "A", "abcde", "a.", "a b", '"a"', "1:a"]


def snaps_of(seed, stores):
    snaps = Snaps(seed)
    for name in stores:
        snaps.take(name, stores[name].map_image())
    return snaps


def plain_image(stores):
    return plain_pack([text for name in sorted(stores) for text in (name, stores[name].map_image())])


class SnapsCase(Case):
    def check_is(self, snaps, stores):
        self.assertEqual(snaps.names(), sorted(stores))
        self.assertEqual(snaps.image(), plain_image(stores))
        for key in KEYS + NO_NAMES + ["none", "x", "y"]:
            held = any(store.records[key]["holders"] for store in stores.values() if key in store.records)
            self.assertIs(snaps.held(key), held)
        for name in {*stores, "none", "", "A", "a"}:
            for line in ["count", "view", "get a", "get c", 'ask "red"', "near 0 0 9", "span 0 zzzz", "rank c"]:
                if name in stores:
                    self.assertEqual(snaps.answer(name, line), stores[name].run(line))
                else:
                    self.fails(Missing, snaps.answer, name, line)


class TestSnaps(SnapsCase):
    def test_constant(self):
        self.assertEqual(module.MAX_SNAPS, 2)

    def test_empty(self):
        self.check_is(Snaps(5), {})
        self.assertEqual(Snaps(5).image(), "")
        self.assertIsNone(Snaps(5).erase("a"))

    def test_take(self):
        some, full = plain_of(5, SOME), plain_of(5, FULL)
        snaps = Snaps(5)
        self.assertIsNone(snaps.take("y", some.map_image()))
        self.check_is(snaps, {"y": some})
        self.assertIsNone(snaps.take("x", full.map_image()))
        self.check_is(snaps, {"x": full, "y": some})
        self.assertEqual(snaps_of(5, {"ab": PlainStore(5)}).image(), "2:ab2:0;")

    def test_twice_and_full(self):
        stores = {"x": plain_of(5, SOME), "y": plain_of(5, FULL)}
        snaps = snaps_of(5, stores)
        for image in ["0;", stores["x"].map_image()]:
            self.fails(Twice, snaps.take, "x", image)
            self.fails(Twice, snaps.take, "y", image)
            self.fails(Full, snaps.take, "z", image)
        self.check_is(snaps, stores)
        snaps = snaps_of(5, {"x": stores["x"]})
        self.fails(Twice, snaps.take, "x", "0;")
        self.check_is(snaps, {"x": stores["x"]})

    def test_remove_one(self):
        stores = {"x": plain_of(5, SOME), "y": plain_of(5, FULL)}
        snaps = snaps_of(5, stores)
        for name in ["none", "", "X", "a"]:
            self.fails(Missing, snaps.remove_one, name)
        self.check_is(snaps, stores)
        self.assertIsNone(snaps.remove_one("x"))
        self.check_is(snaps, {"y": stores["y"]})
        self.fails(Missing, snaps.remove_one, "x")
        snaps.take("z", "0;")
        self.check_is(snaps, {"y": stores["y"], "z": PlainStore(5)})

    def test_answers_change_nothing(self):
        choice = random.Random(610)
        stores = {"x": plain_of(5, SOME), "y": plain_of(5, FULL)}
        snaps = snaps_of(5, stores)
        for _ in range(100):
            line = random_question(choice, KEYS)
            for name in stores:
                self.assertEqual(snaps.answer(name, line), stores[name].run(line))
        self.check_is(snaps, stores)

    def test_held(self):
        snaps = snaps_of(5, {"x": plain_of(5, SOME)})
        self.assertEqual([snaps.held(key) for key in ["a", "b1", "c", "zz9z", "me", "A"]],
                         [True, False, True, False, False, False])
        # One snapshot of two is enough.
        lines = ['put a 1 2 3 ""']
        for first, second in [("x", "y"), ("y", "x")]:
            snaps = snaps_of(5, {first: plain_of(5, lines), second: plain_of(5, lines + ["hold a me"])})
            self.assertIs(snaps.held("a"), True)

    def test_erase(self):
        for key in ["a", "b1", "c", "zz9z", "0", "none", "me", "x", "A", ""]:
            stores = {"x": plain_of(5, SOME), "y": plain_of(5, FULL + ["drop 1", 'put a 7 7 1 "a"'])}
            snaps = snaps_of(5, stores)
            self.assertIsNone(snaps.erase(key))
            for store in stores.values():
                store.erase(key)
            self.check_is(snaps, stores)

    def test_long_history(self):
        choice = random.Random(611)
        for seed in [0, 999999]:
            snaps, stores, store = Snaps(seed), {}, PlainStore(seed)
            for step in range(200):
                store.run(random_change(choice, KEYS))
                name = choice.choice(["x", "y", "xy", "0"])
                turn = choice.random()
                if turn < 0.1:
                    key = choice.choice(KEYS)
                    snaps.erase(key)
                    for one in stores.values():
                        one.erase(key)
                elif turn < 0.5 and name in stores:
                    del stores[name]
                    snaps.remove_one(name)
                elif name in stores:
                    self.fails(Twice, snaps.take, name, store.map_image())
                elif len(stores) == 2:
                    self.fails(Full, snaps.take, name, store.map_image())
                else:
                    snaps.take(name, store.map_image())
                    stores[name] = store.copied()
                if step % 5 == 0:
                    self.check_is(snaps, stores)

    def test_a_returned_list_is_new(self):
        stores = {"x": plain_of(5, SOME)}
        snaps = snaps_of(5, stores)
        snaps.names().clear()
        self.check_is(snaps, stores)


class TestLoadSnaps(SnapsCase):
    def check_text(self, seed, text):
        """Check load_snaps with any text; tell whether there are such snapshots."""
        parts = plain_unpack(text)
        good = parts is not None and len(parts) in (0, 2, 4)
        names = parts[::2] if good else []
        good = good and names == sorted(set(names)) and all(plain_line(f"get {name}") for name in names)
        if good:
            try:
                images = [store_of_map(seed, image).map_image() for image in parts[1::2]]
                self.assertEqual(images, parts[1::2])
            except LetheError:
                good = False
        if good:
            snaps = load_snaps(seed, text)
            self.assertEqual((snaps.names(), snaps.image()), (names, text))
        else:
            self.fails(BadForm, load_snaps, seed, text)
        return good

    def test_what_was_written_is_read(self):
        some, full, none = plain_of(5, SOME), plain_of(5, FULL), PlainStore(5)
        for stores in [{}, {"x": some}, {"x": full, "y": some}, {"y": full, "x": none}, {"a": none, "ab": none}]:
            self.assertTrue(self.check_text(5, plain_image(stores)))
            self.check_is(load_snaps(5, plain_image(stores)), stores)

    def test_loaded_snaps_go_on(self):
        stores = {"x": plain_of(5, SOME), "y": plain_of(5, FULL)}
        snaps = load_snaps(5, plain_image(stores))
        self.fails(Full, snaps.take, "z", "0;")
        snaps.erase("b1")
        stores["x"].erase("b1")
        self.check_is(snaps, stores)
        snaps.remove_one("y")
        self.check_is(snaps, {"x": stores["x"]})

    def test_near_texts(self):
        good = 0
        short = plain_of(7, ['put a 3 2 1 "x"', "hold a me"])
        for stores in [{}, {"x": short}, {"x": PlainStore(7), "y": short}]:
            for text in near_texts(plain_image(stores), 'ax01:;'):
                good += self.check_text(7, text)
        self.assertGreater(good, 10)

    def test_names(self):
        image = plain_of(5, SOME).map_image()
        for name in NO_NAMES:
            self.assertFalse(self.check_text(5, plain_pack([name, image])))
            self.assertFalse(self.check_text(5, plain_pack(["0", "0;", name, image])))
        for first, second in [("y", "x"), ("x", "x"), ("ab", "a"), ("a", "0"), ("x", "y")]:
            self.assertIs(self.check_text(5, plain_pack([first, "0;", second, image])), first < second)

    def test_parts(self):
        image = plain_of(5, SOME).map_image()
        for parts in [["x"], ["x", image, "y"], [image, "x"], [""], ["", ""], ["x", ""], ["x", "0"], ["x", "0;", ""],
                      ["x", image, image], [image], ["x", "y"], ["x", plain_of(5, SOME).index_image()]]:
            self.assertFalse(self.check_text(5, plain_pack(parts)))
        for text in ["x", "1:x", "1:x2:0", "01:x2:0;", "1:x2:0;;"]:
            self.assertFalse(self.check_text(5, text))

    def test_more_than_two(self):
        self.assertTrue(self.check_text(5, plain_pack(["x", "0;", "y", "0;"])))
        self.assertFalse(self.check_text(5, plain_pack(["x", "0;", "y", "0;", "z", "0;"])))

    def test_no_images_of_a_store(self):
        value = plain_pack(["3", "4", "2", "0", "red"])
        self.assertTrue(self.check_text(5, plain_pack(["x", plain_tree_image(5, {"a": value})])))
        for rows in [{"A": value}, {"a": ""}, {"a": value + "1:A"}, {str(k): value for k in range(9)}]:
            self.assertFalse(self.check_text(5, plain_pack(["x", plain_tree_image(5, rows)])))
        image = plain_of(7, SOME).map_image()
        self.assertNotEqual(image, plain_of(5, SOME).map_image())
        self.assertFalse(self.check_text(5, plain_pack(["x", image])))


if __name__ == "__main__":
    unittest.main()
