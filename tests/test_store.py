"""Stores: points 5.2 to 5.4, 5.6 and 5.8."""

import random
import unittest

from lethe.errors import BadForm, Missing, NotAllowed
from lethe.lines import read_line
from lethe.records import Record
from lethe.store import Store, load_store, store_of_map
from tests.plain import (Case, is_tree_image, near_texts, plain_coin, plain_pack, plain_tree_image,
                         shown_entries)
from tests.plain_store import PlainStore, plain_line, plain_value, random_change, random_question
from tests.test_lines import WRONG, good_lines
from tests.test_records import fields, shown_fields

KEYS = ["a", "b", "ab", "b1", "c", "zz9z", "0", "d", "e", "f"]


def images(store):
    return [store.map_image(), store.index_image(), store.points_image()]


def plain_of(seed, lines):
    plain = PlainStore(seed)
    for line in lines:
        plain.run(line)
    return plain


def store_of(seed, lines):
    store = Store(seed)
    for line in lines:
        store.run(line)
    return store


FULL = [f'put {k} {k} {k} {k % 4} "word {k}"' for k in range(8)]
SOME = ['put a 3 4 2 "red fox"', 'put b1 0 99 0 "The RED house"', 'put c 3 4 2 ""', "hold a me", "hold c you",
        "hold c me", "drop c", 'put zz9z 99 0 3 "forgetfulness"']


class StoreCase(Case):
    def check_is(self, store, plain):
        self.assertEqual(images(store), plain.images())
        self.assertEqual(store.names(), sorted(plain.records))
        self.assertEqual(store.size(), len(plain.records))
        for key in KEYS + ["none", "", "A", "a.", "longer", "1:a"]:
            self.assertIs(store.has(key), key in plain.records)
            if key in plain.records:
                record = plain.records[key]
                row = tuple(record[field] for field in ["x", "y", "label", "text", "holders", "due"])
                row = row[:4] + (sorted(row[4]), row[5])
                self.assertEqual(fields(store.record_of(key)), row)
                self.assertIs(type(store.record_of(key)), Record)
            else:
                self.fails(Missing, store.record_of, key)

    def run_both(self, store, plain, line):
        answered = store.run(line)
        self.assertEqual(answered, plain.run(line), line)
        return answered

    def check_unchanged(self, store, call, *args):
        """Check that a call raises NotAllowed and changes nothing."""
        before = images(store)
        self.fails(NotAllowed, call, *args)
        self.assertEqual(images(store), before)


class TestExamples(StoreCase):
    def test_of_the_interface(self):
        self.assertEqual(Store(5).run('put a1 3 4 2 "red fox"'), "new")
        self.assertEqual(Store(5).map_image(), "0;")

    def test_of_point_5_8(self):
        for seed in [0, 5, 999999]:
            store = Store(seed)
            for line, answered in [
                    ('put a1 3 4 2 "red fox"', "new"), ("get a1", '3 4 2 "red fox"'), ("hold a1 me", "ok"),
                    ("drop a1", "due"), ("get a1", '3 4 2 "red fox" held 1 due'), ('put a1 0 0 0 ""', "due"),
                    ("free a1 you", "free"), ("free a1 me", "gone"), ("count", "0")]:
                self.assertEqual(store.run(line), answered)
            self.assertEqual(images(store), ["0;", "0;", "0;"])
            for line in ["put a1 3 4 2 red", 'put A1 3 4 2 "red"', 'get "a1"', "count 0", "near 1 01 2", "get  a1", ""]:
                self.assertEqual(store.run(line), "bad")

    def test_images_by_hand(self):
        store = store_of(5, ['put a 3 2 1 "Red"', "hold a me"])
        self.assertEqual(store.map_image(), "1;01:a21:1:31:21:11:03:Red2:me")
        self.assertEqual(store.index_image(), plain_tree_image(5, {".a": "1", "red.a": "0"}))
        self.assertEqual(store.points_image(), "1;07:00013.a3:3,2")


class TestChanges(StoreCase):
    def test_put(self):
        store = Store(5)
        self.assertEqual(store.put("a", 0, 99, 3, "x"), "new")
        self.assertEqual(store.put("a", 99, 0, 0, ""), "changed")
        self.assertEqual(store.put("a", 99, 0, 0, ""), "changed")
        self.assertEqual(fields(store.record_of("a")), (99, 0, 0, "", [], False))
        store.hold("a", "you")
        store.hold("a", "me")
        self.assertEqual(store.put("a", 1, 2, 3, "y"), "changed")
        self.assertEqual(fields(store.record_of("a")), (1, 2, 3, "y", ["me", "you"], False))
        store.drop("a")
        self.assertEqual(store.put("a", 5, 5, 1, "z"), "due")
        self.assertEqual(fields(store.record_of("a")), (1, 2, 3, "y", ["me", "you"], True))

    def test_eight_records_and_one_more(self):
        store = store_of(5, FULL)
        plain = plain_of(5, FULL)
        self.check_is(store, plain)
        self.assertEqual(store.put("new", 0, 0, 0, ""), "full")
        self.check_is(store, plain)
        self.assertEqual(store.put("0", 9, 9, 0, "x"), "changed")
        self.assertEqual(store.hold("0", "me"), "ok")
        self.assertEqual(store.drop("0"), "due")
        self.assertEqual(store.put("0", 0, 0, 0, ""), "due")
        self.assertEqual(store.put("new", 0, 0, 0, ""), "full")
        self.assertEqual(store.drop("1"), "gone")
        self.assertEqual(store.put("new", 0, 0, 0, ""), "new")
        self.assertEqual(store.put("1", 0, 0, 0, ""), "full")

    def test_drop(self):
        store = store_of(5, SOME)
        self.assertEqual(store.drop("none"), "none")
        self.assertEqual(store.drop("b1"), "gone")
        self.assertEqual(store.drop("b1"), "none")
        self.assertEqual(store.drop("a"), "due")
        self.assertEqual(store.drop("a"), "due")
        self.assertEqual(fields(store.record_of("a")), (3, 4, 2, "red fox", ["me"], True))

    def test_hold(self):
        store = Store(5)
        self.assertEqual(store.hold("a", "me"), "none")
        store.put("a", 1, 2, 3, "x")
        self.assertEqual(store.hold("a", "you"), "ok")
        self.assertEqual(store.hold("a", "you"), "held")
        store.drop("a")
        self.assertEqual(store.hold("a", "you"), "held")
        self.assertEqual(store.hold("a", "me"), "ok")
        self.assertEqual(store.hold("a", "me"), "held")
        self.assertEqual(store.hold("a", "us"), "full")
        self.assertEqual(fields(store.record_of("a")), (1, 2, 3, "x", ["me", "you"], True))

    def test_free(self):
        store = store_of(5, SOME)
        self.assertEqual(store.free("none", "me"), "none")
        self.assertEqual(store.free("a", "you"), "free")
        self.assertEqual(store.free("b1", "you"), "free")
        self.assertEqual(store.free("a", "me"), "ok")
        self.assertTrue(store.has("a"))
        self.assertEqual(store.free("a", "me"), "free")
        self.assertEqual(store.free("c", "us"), "free")
        self.assertEqual(store.free("c", "me"), "ok")
        self.assertEqual(fields(store.record_of("c")), (3, 4, 2, "", ["you"], True))
        self.assertEqual(store.free("c", "me"), "free")
        self.assertEqual(store.free("c", "you"), "gone")
        self.assertEqual(store.free("c", "you"), "none")

    def test_erase(self):
        store = store_of(5, SOME)
        self.assertEqual(store.erase("none"), "none")
        for key in ["a", "c", "b1", "zz9z"]:
            self.assertEqual(store.erase(key), "gone")
            self.assertEqual(store.erase(key), "none")
        self.assertEqual(images(store), ["0;", "0;", "0;"])

    def test_not_allowed(self):
        for store in [Store(5), store_of(5, SOME), store_of(5, FULL)]:
            for key in ["", "abcde", "A", "a b", "a.", "1:a"]:
                self.check_unchanged(store, store.put, key, 0, 0, 0, "")
                self.check_unchanged(store, store.drop, key)
                self.check_unchanged(store, store.erase, key)
                self.check_unchanged(store, store.hold, key, "me")
                self.check_unchanged(store, store.free, key, "me")
                for known in ["a", "c", "0", "none"]:
                    self.check_unchanged(store, store.hold, known, key)
                    self.check_unchanged(store, store.free, known, key)
            for key in ["a", "c", "0", "none"]:
                for x, y, label in [(-1, 0, 0), (100, 0, 0), (0, -1, 0), (0, 100, 0), (0, 0, -1), (0, 0, 4)]:
                    self.check_unchanged(store, store.put, key, x, y, label, "")
                for text in ["x" * 17, '"', 'a"b']:
                    self.check_unchanged(store, store.put, key, 0, 0, 0, text)

    def test_long_history(self):
        choice = random.Random(54)
        for seed in [0, 5, 999999]:
            store, plain = Store(seed), PlainStore(seed)
            seen = {}
            for step in range(400):
                if choice.random() < 0.05:
                    key = choice.choice(KEYS)
                    self.assertEqual(store.erase(key), plain.erase(key))
                line = random_change(choice, KEYS)
                answered = self.run_both(store, plain, line)
                seen[line.split(" ")[0], answered] = True
                if step % 8 == 0:
                    self.check_is(store, plain)
                    for _ in range(4):
                        self.run_both(store, plain, random_question(choice, KEYS + ["m"]))
            self.check_is(store, plain)
            self.assertEqual(len(seen), 15)

    def test_images_depend_only_on_the_records(self):
        choice = random.Random(53)
        for seed in [1, 2]:
            for _ in range(15):
                lines = [random_change(choice, KEYS) for _ in range(40)]
                store, plain = store_of(seed, lines), plain_of(seed, lines)
                for key in KEYS:
                    if choice.random() < 0.4:
                        store.erase(key)
                        plain.erase(key)
                fresh = Store(seed)
                for key in choice.sample(sorted(plain.records), len(plain.records)):
                    record = plain.records[key]
                    fresh.put(key, record["x"], record["y"], record["label"], record["text"])
                    for holder in record["holders"]:
                        fresh.hold(key, holder)
                    if record["due"]:
                        fresh.drop(key)
                self.assertEqual(images(store), images(fresh))
                self.assertEqual(images(store), plain.images())


class TestQuestions(StoreCase):
    def test_by_hand(self):
        store = store_of(5, SOME)
        receipt = plain_coin(5, 5, "a")
        for line, answered in [
                ("get a", '3 4 2 "red fox" held 1'), ("get b1", '0 99 0 "The RED house"'),
                ("get c", '3 4 2 "" held 2 due'), ("get none", "none"), ("count", "4"), ("rank a", "0"),
                ("rank b", "1"), ("rank b1", "1"), ("rank c", "2"), ("rank zzzz", "4"), ("rank 0", "0"),
                ("span a c", "a b1"), ("span a zzzz", "a b1 c zz9z"), ("span c a", "-"), ("span c c", "-"),
                ("span b1 b2", "b1"), ('ask "red"', "a b1"), ('ask "!red"', "c zz9z"), ('ask "FORGET"', "zz9z"),
                ('ask "none"', "-"), ('ask "red+house | fox"', "a b1"), ("in 0 0 99 99", "a b1 c zz9z"),
                ("in 3 4 3 4", "a c"), ("in 4 4 3 4", "-"), ("near 0 0 1", "a"), ("near 0 0 99", "a c b1 zz9z"),
                ("near 0 99 2", "b1 a"), ("view", "0 1 0 99; 2 2 6 8; 3 1 99 0"), ("receipt a", str(receipt)),
                ("receipt none", str(plain_coin(5, 5, "none"))), (f"check a {receipt}", "there"),
                ("check a 5", "false"), (f"check none {plain_coin(5, 5, 'none')}", "gone"),
                (f"check c {receipt}", "false")]:
            self.assertEqual(store.run(line), answered, line)

    def test_an_empty_store(self):
        for line, answered in [("get a", "none"), ("count", "0"), ("rank a", "0"), ("span 0 zzzz", "-"),
                               ('ask "!a"', "-"), ("in 0 0 99 99", "-"), ("near 0 0 5", "-"), ("view", "-"),
                               ("receipt a", str(plain_coin(7, 5, "a"))), (f"check a {plain_coin(7, 5, 'a')}", "gone"),
                               ("check a 0", "false")]:
            self.assertEqual(Store(7).run(line), answered, line)

    def test_good_lines_against_a_plain_store(self):
        for lines in [[], SOME, FULL]:
            for line in good_lines():
                store, plain = store_of(5, lines), plain_of(5, lines)
                self.assertNotEqual(self.run_both(store, plain, line), "bad")
                self.assertEqual(images(store), plain.images())

    def test_questions_change_nothing(self):
        choice = random.Random(56)
        store = store_of(5, SOME)
        before = images(store)
        for _ in range(200):
            store.run(random_question(choice, KEYS))
        self.assertEqual(images(store), before)

    def test_bad_lines(self):
        store = store_of(5, SOME)
        before = images(store)
        lines = [f"get {key}" for key in WRONG["K"]] + [f"check a {number}" for number in WRONG["R"]]
        lines += [f"put a 1 2 3 {text}" for text in WRONG["T"]] + [f"ask {text}" for text in WRONG["Q"]]
        for line in good_lines():
            lines += [line + " ", " " + line, line + " a", line[:-1] + "%", line[1:]]
        for line in lines:
            self.assertIsNone(plain_line(line), line)
            self.assertEqual(store.run(line), "bad", line)
        self.assertEqual(images(store), before)

    def test_answer_of_a_parsed_line(self):
        store, plain = Store(5), PlainStore(5)
        for line in SOME + good_lines():
            self.assertEqual(store.answer(read_line(line)), plain.run(line))
        self.check_is(store, plain)

    def test_returned_objects_are_new(self):
        store = store_of(5, SOME)
        before = images(store)
        store.names().clear()
        record = store.record_of("a")
        record.holders.append("zz")
        record.x = 77
        self.assertEqual(images(store), before)
        self.assertEqual(fields(store.record_of("a")), (3, 4, 2, "red fox", ["me"], False))


class TestLoading(StoreCase):
    def check_map(self, seed, image):
        """Check store_of_map with any text; tell whether there is such a store."""
        rows = dict(shown_entries(image)) if is_tree_image(seed, image) else None
        good = rows is not None and len(rows) <= 8
        for key in rows or {}:
            named = plain_line(f"get {key}") is not None
            good = good and named and shown_fields(rows[key]) is not None
        if good:
            store = store_of_map(seed, image)
            self.assertEqual(store.map_image(), image)
            loaded = load_store(seed, image, store.index_image(), store.points_image())
            self.assertEqual(images(loaded), images(store))
        else:
            self.fails(BadForm, store_of_map, seed, image)
            self.fails(BadForm, load_store, seed, image, "0;", "0;")
        return good

    def test_what_was_written_is_read(self):
        choice = random.Random(57)
        for seed in [0, 5, 999999]:
            for _ in range(10):
                lines = [random_change(choice, KEYS) for _ in range(choice.randrange(40))]
                plain = plain_of(seed, lines)
                self.check_is(store_of_map(seed, plain.map_image()), plain)
                self.check_is(load_store(seed, *plain.images()), plain)

    def test_a_loaded_store_goes_on(self):
        choice = random.Random(58)
        plain = plain_of(5, SOME)
        for store in [store_of_map(5, plain.map_image()), load_store(5, *plain.images())]:
            other = plain.copied()
            for _ in range(60):
                self.run_both(store, other, random_change(choice, KEYS))
                self.run_both(store, other, random_question(choice, KEYS))
            self.check_is(store, other)

    def test_near_maps(self):
        good = 0
        for lines in [[], ['put a 3 2 1 "Red"', "hold a me", "drop a"], ['put a 3 2 1 "x"', 'put b 3 12 1 ""']]:
            for text in near_texts(plain_of(7, lines).map_image(), 'a0193:;"'):
                good += self.check_map(7, text)
        self.assertGreater(good, 10)

    def test_wrong_keys_and_values(self):
        value = plain_pack(["3", "4", "2", "0", "red"])
        self.assertTrue(self.check_map(5, plain_tree_image(5, {"a": value, "b": value})))
        for key in ["A", "abcde", "a.", "a b", ".", "1:a"]:
            self.assertFalse(self.check_map(5, plain_tree_image(5, {key: value})))
            self.assertFalse(self.check_map(5, plain_tree_image(5, {"a": value, key: value})))
        for wrong in ["", "1:31:41:21:10:", "1:31:41:2", plain_pack(["03", "4", "2", "0", "red"]), value + "1:A",
                      plain_pack(["3", "4", "2", "0", "red", "b", "a"]), plain_pack(["3", "4", "4", "0", "red"])]:
            self.assertFalse(self.check_map(5, plain_tree_image(5, {"a": wrong})))
            self.assertFalse(self.check_map(5, plain_tree_image(5, {"a": wrong, "b": value})))

    def test_more_records_than_eight(self):
        value = plain_pack(["3", "4", "2", "0", "red"])
        self.assertTrue(self.check_map(5, plain_tree_image(5, {str(k): value for k in range(8)})))
        self.assertFalse(self.check_map(5, plain_tree_image(5, {str(k): value for k in range(9)})))

    def test_parts_that_do_not_agree(self):
        plain = plain_of(5, SOME)
        good = plain.images()
        others = [plain_of(5, SOME[:1]).images(), plain_of(5, []).images(), plain_of(6, SOME).images(),
                  plain_of(5, SOME + ['put a 3 5 2 "red fox"']).images(),
                  plain_of(5, SOME + ['put a 3 4 2 "fox"']).images()]
        for other in others:
            for at in range(3):
                parts = good[:at] + [other[at]] + good[at + 1:]
                if parts == good:
                    load_store(5, *parts)
                else:
                    self.fails(BadForm, load_store, 5, *parts)
        for parts in [[good[0], good[2], good[1]], [good[1], good[0], good[2]], [good[2], good[1], good[0]]]:
            self.fails(BadForm, load_store, 5, *parts)
        for at in range(3):
            for text in ["", "0", good[at] + "0", good[at][:-1], good[at][1:]]:
                self.fails(BadForm, load_store, 5, *(good[:at] + [text] + good[at + 1:]))

    def test_near_images_of_the_other_parts(self):
        good = plain_of(7, ['put a 3 2 1 "Red"']).images()
        for at in [1, 2]:
            for text in near_texts(good[at]):
                self.fails(BadForm, load_store, 7, *(good[:at] + [text] + good[at + 1:]))

    def test_another_seed(self):
        good = plain_of(7, SOME).images()
        other = plain_of(5, SOME).images()
        self.assertNotEqual(good[0], other[0])
        self.fails(BadForm, store_of_map, 5, good[0])
        self.fails(BadForm, load_store, 5, *good)
        self.fails(BadForm, load_store, 5, other[0], good[1], other[2])

    def test_due_without_holder(self):
        image = plain_of(5, ["put a 1 2 3 \"\"", "hold a me", "drop a"])
        record = image.records["a"]
        self.assertTrue(self.check_map(5, plain_tree_image(5, {"a": plain_value(record)})))
        record["holders"] = []
        self.assertFalse(self.check_map(5, plain_tree_image(5, {"a": plain_value(record)})))


if __name__ == "__main__":
    unittest.main()
