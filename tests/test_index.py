"""The index of words: points 4.2 and 4.3."""

import random
import re
import unittest

from lethe.errors import BadForm, Full, Missing, NotAllowed, Twice
from lethe.index import Index, load_index
from tests.plain import SIGNS, Case, is_tree_image, near_texts, plain_tree_image, shown_entries

TEXTS = {"a": "red fox red", "b1": "", "c": "The RED house!", "zz9": "2 b or !2 b"}


def plain_words(text):
    return [run.lower()[:6] for run in re.findall("[A-Za-z0-9]+", text)]


def plain_rows(texts):
    """Return the pairs of the order of an index."""
    rows = {}
    for name, text in texts.items():
        found = plain_words(text)
        for word in found:
            rows[f"{word}.{name}"] = ",".join(str(k) for k in range(len(found)) if found[k] == word)
        rows["." + name] = str(len(found))
    return rows


def plain_image(seed, texts):
    return plain_tree_image(seed, plain_rows(texts))


def plain_texts(seed, image):
    """Return texts whose index has this image, or None."""
    if not is_tree_image(seed, image):
        return None
    placed = {}
    counts = {}
    for key, value in shown_entries(image):
        if not re.fullmatch(r"([a-z0-9]{1,6})?\.[a-z0-9]{1,4}", key):
            return None
        word, name = key.split(".")
        if word == "":
            counts[name] = value
        else:
            if not re.fullmatch("(0|[1-9][0-9]*)(,(0|[1-9][0-9]*))*", value):
                return None
            places = [int(place) for place in value.split(",")]
            if sorted(places) != places:
                return None
            placed.setdefault(name, []).extend((place, word) for place in places)
    if len(counts) > 8 or any(name not in counts for name in placed):
        return None
    texts = {}
    for name in counts:
        rows = sorted(placed.get(name, []))
        texts[name] = " ".join(word for _, word in rows)
        if [place for place, _ in rows] != list(range(len(rows))) or counts[name] != str(len(rows)):
            return None
        if len(texts[name]) > 16:
            return None
    return texts


def index_of(seed, texts):
    index = Index(seed)
    for name in texts:
        index.put(name, texts[name])
    return index


class IndexCase(Case):
    def check_is(self, index, seed, texts):
        self.assertEqual(index.names(), sorted(texts))
        self.assertEqual(index.image(), plain_image(seed, texts))
        found = {name: plain_words(texts[name]) for name in texts}
        known = sorted({word for name in found for word in found[name]})
        for word in known + ["none", "RED", "forgetful", "", ".", "r", "re", ".a", "red.", "red.a", "/", " "]:
            having = [name for name in sorted(texts) if word in found[name]]
            self.assertEqual(index.having(word), having)
            for name in list(texts) + ["none", "A", "", "a.", ".", "longer"]:
                places = [k for k, other in enumerate(found.get(name, [])) if other == word]
                self.assertEqual(index.places(word, name), places)
        for start in {word[:k] for word in known for k in range(7)} | {"", "R", "x", ".", "red.", "redd"}:
            beginning = [name for name in sorted(texts) if any(word.startswith(start) for word in found[name])]
            self.assertEqual(index.beginning(start), beginning)


class TestIndex(IndexCase):
    def test_knows_nothing(self):
        self.check_is(Index(5), 5, {})
        self.assertEqual(Index(5).image(), "0;")

    def test_by_hand(self):
        index = index_of(5, {"a": "Red fox red"})
        rows = {"red.a": "0,2", "fox.a": "1", ".a": "3"}
        self.assertEqual(index.image(), plain_tree_image(5, rows))
        self.assertEqual(index.places("red", "a"), [0, 2])
        self.assertEqual(index.places("Red", "a"), [])
        self.assertEqual(index.having("red"), ["a"])
        self.assertEqual(index.beginning(""), ["a"])

    def test_a_text_without_words(self):
        index = index_of(5, {"a": "", "b": "..!", "c": "x"})
        self.assertEqual(index.names(), ["a", "b", "c"])
        self.assertEqual(index.beginning(""), ["c"])
        self.assertEqual(index.having(""), [])
        self.assertEqual(index.places("", "a"), [])

    def test_some_texts(self):
        for seed in [0, 5, 999999]:
            self.check_is(index_of(seed, TEXTS), seed, TEXTS)

    def test_six_and_seven_characters(self):
        texts = {"a": "abcdef", "b": "abcdefg", "c": "abcdefgh abcdef"}
        index = index_of(1, texts)
        self.check_is(index, 1, texts)
        self.assertEqual(index.having("abcdef"), ["a", "b", "c"])
        self.assertEqual(index.having("abcdefg"), [])
        self.assertEqual(index.beginning("abcdefg"), [])

    def test_eight_words_in_a_text(self):
        texts = {str(k): "a b c d e f g h " for k in range(8)}
        self.check_is(index_of(2, texts), 2, texts)

    def test_long_history(self):
        choice = random.Random(22)
        for seed in [3, 4]:
            index = Index(seed)
            texts = {}
            for step in range(200):
                name = choice.choice(["a", "b", "ab", "b1", "c", "d", "e", "f", "ffff", "0"])
                if name in texts and choice.random() < 0.7:
                    del texts[name]
                    self.assertIsNone(index.drop(name))
                elif name in texts:
                    self.fails(Twice, index.put, name, "")
                elif len(texts) == 8:
                    self.fails(Full, index.put, name, "")
                else:
                    texts[name] = "".join(choice.choices("ab A.", k=choice.randrange(17)))
                    self.assertIsNone(index.put(name, texts[name]))
                if step % 4 == 0:
                    self.check_is(index, seed, texts)

    def test_same_words_give_the_same_image(self):
        first = index_of(6, {"a": "Forgetful, x", "b": "1"})
        second = index_of(6, {"b": "(1)", "a": "forget   X"})
        self.assertEqual(first.image(), second.image())

    def test_not_allowed(self):
        index = index_of(5, TEXTS)
        image = index.image()
        for key in ["", "abcde", "A", "a b", "a.", ".", "a-"]:
            self.fails(NotAllowed, index.put, key, "x")
        for text in ["x" * 17, " " * 17, "a b c d e f g h i"]:
            self.fails(NotAllowed, index.put, "new", text)
            self.fails(NotAllowed, index.put, "a", text)
        self.assertEqual(index.image(), image)
        index.put("new", "x" * 16)
        self.assertEqual(index.having("xxxxxx"), ["new"])

    def test_twice_and_full(self):
        texts = {str(k): "word" for k in range(8)}
        index = index_of(5, texts)
        for text in ["", "word", "other"]:
            self.fails(Twice, index.put, "3", text)
            self.fails(Full, index.put, "9", text)
        self.fails(NotAllowed, index.put, "3", "x" * 17)
        self.fails(NotAllowed, index.put, "9", "x" * 17)
        self.fails(NotAllowed, index.put, "longer", "")
        self.check_is(index, 5, texts)
        index.drop("0")
        index.put("9", "")
        self.fails(Full, index.put, "0", "")

    def test_missing(self):
        index = index_of(5, TEXTS)
        image = index.image()
        for key in ["none", "b", "A", "", "a.", ".a", "red", "red.a", ".", "longer", "zz99"]:
            self.fails(Missing, index.drop, key)
        self.fails(Missing, Index(5).drop, "a")
        self.fails(Missing, Index(5).drop, "")
        self.assertEqual(index.image(), image)

    def test_returned_lists_are_new(self):
        index = index_of(5, TEXTS)
        for found in [index.names(), index.places("red", "a"), index.having("red"), index.beginning("")]:
            self.assertNotEqual(found, [])
            found.clear()
        self.check_is(index, 5, TEXTS)


class TestLoadIndex(IndexCase):
    def check_text(self, seed, image):
        texts = plain_texts(seed, image)
        if texts is None:
            self.fails(BadForm, load_index, seed, image)
        else:
            index = load_index(seed, image)
            self.assertEqual(index.image(), image)
            self.check_is(index, seed, texts)
        return texts is not None

    def check_rows(self, rows, good):
        self.assertIs(self.check_text(7, plain_tree_image(7, rows)), good, rows)

    def test_what_was_written_is_read(self):
        full = {str(k): "a b c d e f g h" for k in range(8)}
        for texts in [{}, {"a": ""}, TEXTS, full, {"a": "x" * 16}, {"b": "abcdefg abcdefg"}]:
            self.assertIs(self.check_text(4, plain_image(4, texts)), True)

    def test_a_loaded_index_goes_on(self):
        index = load_index(4, plain_image(4, TEXTS))
        index.drop("a")
        index.put("new", "fox")
        texts = {name: TEXTS[name] for name in TEXTS if name != "a"}
        self.check_is(index, 4, {**texts, "new": "fox"})

    def test_near_texts(self):
        good = 0
        for texts in [{}, {"a": "x"}, {"a": "b a b", "b": ""}]:
            for text in near_texts(plain_image(7, texts), "ab01,.:;3"):
                good += self.check_text(7, text)
        self.assertGreaterEqual(good, 3)

    def test_near_rows(self):
        rows = plain_rows({"a": "b a b", "b": "", "c": "x1 y"})
        self.check_rows(rows, True)
        for key in rows:
            self.check_rows({other: rows[other] for other in rows if other != key}, key == ".b")
            for value in ["", "0", "1", "2", "3", "0,1", "1,0", "0,2", "2,0", "0,0", "0,1,2", ",", "0,", ",0", "00",
                          "0,02", "-1", "a", "0;2", "0, 2", "0.2", "1234567890", "0,1234567890", " 1"]:
                self.check_rows({**rows, key: value}, value == rows[key])

    def test_wrong_keys(self):
        self.check_rows({".a": "1", "word.a": "0"}, True)
        for key in ["Word.a", "sevenwd.a", "w-d.a", "w d.a", " .a", "word", "word.", "word.A", "word.abcde", "word..a",
                    "..a", ".a.", "w.d.a", "word.a.", "/.a", "a"]:
            self.check_rows({".a": "1", key: "0"}, False)
            self.check_rows({".a": "0", key: "0"}, False)
            self.check_rows({key: "0"}, False)
            self.check_rows({key: ""}, False)
        for key in [".", ".A", ".abcde", "..", ".a.b", ".a ", ". a"]:
            self.check_rows({key: "0"}, False)
        self.check_rows({".abcd": "0"}, True)

    def test_places(self):
        self.check_rows({".a": "2", "x.a": "0", "y.a": "1"}, True)
        self.check_rows({".a": "2", "x.a": "0", "y.a": "0"}, False)
        self.check_rows({".a": "2", "x.a": "0", "y.a": "2"}, False)
        self.check_rows({".a": "2", "x.a": "1", "y.a": "2"}, False)
        self.check_rows({".a": "3", "x.a": "0", "y.a": "1"}, False)
        self.check_rows({".a": "2", "x.a": "0,1", "y.a": "1"}, False)
        self.check_rows({".a": "3", "x.a": "0,1", "y.a": "1,2"}, False)
        self.check_rows({".a": "1", "x.b": "0"}, False)
        self.check_rows({".a": "1", ".b": "0", "x.b": "0"}, False)
        self.check_rows({".a": "02", "x.a": "0,1"}, False)
        self.check_rows({".a": "-0"}, False)
        self.check_rows({".a": ""}, False)

    def test_lengths_of_texts(self):
        self.check_rows({".a": "3", "abcdef.a": "0,1", "xy.a": "2"}, True)
        self.check_rows({".a": "3", "abcdef.a": "0,1", "xyz.a": "2"}, False)
        self.check_rows({".a": "8", "x.a": "0,1,2,3,4,5,6,7"}, True)
        self.check_rows({".a": "9", "x.a": "0,1,2,3,4,5,6,7,8"}, False)
        self.check_rows({".a": "2", "abcdef.a": "0,1"}, True)
        self.check_rows({".a": "3", "abcdef.a": "0,1,2"}, False)
        self.check_rows({".a": "1", "abcdef.a": "0"}, True)
        self.check_rows({".a": "1", "abcdefg.a": "0"}, False)

    def test_numbers_of_texts(self):
        texts = {str(k): "w" for k in range(8)}
        self.check_rows(plain_rows(texts), True)
        self.check_rows(plain_rows({**texts, "8": ""}), False)
        self.check_rows(plain_rows({**texts, "8": "w"}), False)

    def test_images_of_no_order(self):
        good = plain_image(7, TEXTS)
        for text in ["", "0", ";", "00;", "1;", "0;.", good[1:], good + "0", good[:-1], "1" + good, good + good]:
            self.fails(BadForm, load_index, 7, text)
        self.fails(BadForm, load_index, 8, good)

    def test_all_signs_in_a_text(self):
        texts = {f"{k}": SIGNS[16 * k:16 * k + 16] for k in range(6)}
        self.assertIs(self.check_text(9, plain_image(9, texts)), True)


if __name__ == "__main__":
    unittest.main()
