"""Questions about words: points 4.4 to 4.6."""

import random
import unittest

from lethe.errors import BadForm
from lethe.index import Index
from lethe.question import answer, parse
from tests.plain import Case, near_texts
from tests.plain_store import answers, plain_question
from tests.test_index import index_of, plain_words

TEXTS = {"a": "red fox runs", "b": "The RED house", "c": "fox red house", "d": "", "e": "forgetful x", "f": "red red 2",
         "0": "...", "zz9": "x RED-red"}
WORDS = ["red", "Fox", "house", "x", "2", "forgetful", "forget", "r", "ho", "RUNS", "none", "the"]


def random_tree(choice, depth):
    """Return a question as its tokens and its tuple, made from the grammar."""
    parts = [random_both(choice, depth) for _ in range(choice.choice([1, 1, 2, 3]))]
    return joined(parts, "|", "either")


def random_both(choice, depth):
    parts = [random_part(choice, depth) for _ in range(choice.choice([1, 1, 2, 3]))]
    return joined(parts, "&", "both")


def joined(parts, sign, kind):
    tokens, tree = parts[0]
    for other_tokens, other_tree in parts[1:]:
        tokens = tokens + [sign] + other_tokens
        tree = (kind, tree, other_tree)
    return tokens, tree


def random_part(choice, depth):
    kind = choice.choice(["not", "around", "begin", "word", "row", "word"]) if depth else "word"
    if kind == "not":
        tokens, tree = random_part(choice, depth - 1)
        return ["!"] + tokens, ("not", tree)
    if kind == "around":
        tokens, tree = random_tree(choice, depth - 1)
        return ["("] + tokens + [")"], tree
    many = choice.randrange(2, 4) if kind == "row" else 1
    found = [choice.choice(WORDS) for _ in range(many)]
    cut = [word.lower()[:6] for word in found]
    tokens = [found[0]]
    for word in found[1:]:
        tokens += ["+", word]
    return tokens + ["*"] * (kind == "begin"), (kind, *cut)


def random_question(choice):
    """Return questions of the same tokens, with and without spaces, and their tuple."""
    while True:
        tokens, tree = random_tree(choice, 4)
        tight = "".join(tokens)
        wide = " " + " ".join(tokens) + " "
        if len(wide) <= 40:
            loose = "".join(token + " " * choice.randrange(2) for token in tokens)
            return [tight, wide, loose], tree


class TestParse(Case):
    def check(self, question):
        """Check a question against the plain reading of it; tell whether it is allowed."""
        tree = plain_question(question)
        if tree is None:
            self.fails(BadForm, parse, question)
        else:
            self.assertEqual(parse(question), tree)
        return tree is not None

    def test_examples(self):
        tree = ("both", ("word", "red"), ("not", ("either", ("word", "fox"), ("begin", "ho"))))
        self.assertEqual(parse("red & !(fox | Ho*)"), tree)
        self.fails(BadForm, parse, "fox |")
        a, b, c = ("word", "a"), ("word", "b"), ("word", "c")
        self.assertEqual(parse("a & b & c"), ("both", ("both", a, b), c))

    def test_by_hand(self):
        a, b, c = ("word", "a"), ("word", "b"), ("word", "c")
        self.assertEqual(parse("a | b | c"), ("either", ("either", a, b), c))
        self.assertEqual(parse("a | b & c"), ("either", a, ("both", b, c)))
        self.assertEqual(parse("a & b | c"), ("either", ("both", a, b), c))
        self.assertEqual(parse("a & (b | c)"), ("both", a, ("either", b, c)))
        self.assertEqual(parse("a & (b & c)"), ("both", a, ("both", b, c)))
        self.assertEqual(parse("!a & b"), ("both", ("not", a), b))
        self.assertEqual(parse("!!a"), ("not", ("not", a)))
        self.assertEqual(parse("a+b+c"), ("row", "a", "b", "c"))
        self.assertEqual(parse("!a+b"), ("not", ("row", "a", "b")))
        self.assertEqual(parse("!a*"), ("not", ("begin", "a")))
        self.assertEqual(parse("((a))"), a)
        self.assertEqual(parse("0"), ("word", "0"))

    def test_random_questions(self):
        choice = random.Random(41)
        for _ in range(400):
            questions, tree = random_question(choice)
            for question in questions:
                self.assertEqual(parse(question), tree, question)
                self.assertEqual(plain_question(question), tree, question)

    def test_words_of_six_and_seven_characters(self):
        self.assertEqual(parse("abcdef"), ("word", "abcdef"))
        self.assertEqual(parse("ABCDEFG"), ("word", "abcdef"))
        self.assertEqual(parse("abcdefg*"), ("begin", "abcdef"))
        self.assertEqual(parse("abcdefg+1234567"), ("row", "abcdef", "123456"))
        self.assertEqual(parse("a" * 40), ("word", "aaaaaa"))

    def test_lengths(self):
        self.fails(BadForm, parse, "")
        for question in ["a" + " " * 39, " " * 39 + "a", "a|" * 19 + "ab", "a&" * 19 + "a*", "a+" * 19 + "bc"]:
            self.assertEqual(len(question), 40)
            self.assertTrue(self.check(question))
            for longer in [question + " ", " " + question, question + "a", "!" + question, f"({question})"]:
                self.fails(BadForm, parse, longer)
        self.fails(BadForm, parse, " " * 40)
        self.fails(BadForm, parse, " " * 41)

    def test_eight_and_nine_around(self):
        for marks in ["((((((((", "!!!!!!!!", "!(!(!(!(", "(((!!!!!", "!!!!((((", "(!!(!!(!"]:
            closed = ")" * marks.count("(")
            self.assertTrue(self.check(marks + "a" + closed))
            self.assertTrue(self.check(f"a|{marks}a{closed}&!b"))
            self.assertTrue(self.check(f"!b&{marks}a+b{closed}|!(c*)"))
            for wrong in [f"({marks}a{closed})", f"!{marks}a{closed}", f"{marks}(a){closed}", f"{marks}!a{closed}",
                          f"b|!{marks}a*{closed}"]:
                self.assertLessEqual(len(wrong), 40)
                self.fails(BadForm, parse, wrong)
        self.assertTrue(self.check("((((((((b|a+b))))))))"))
        self.fails(BadForm, parse, "((((((((b|(a+b)))))))))")
        self.assertTrue(self.check("!!!!!!!!b|(a)"))

    def test_a_doubled_pair_counts_twice(self):
        self.assertTrue(self.check("!!!!!!((a))"))
        self.fails(BadForm, parse, "!!!!!!(((a)))")
        self.assertTrue(self.check("((((a))))&((((b))))&((((c))))&!!!!d"))
        self.assertTrue(self.check("((((!!!!a))))|((((!!!!b))))"))
        self.fails(BadForm, parse, "((((!!!!a))))|((((!!!!!b))))")

    def test_spaces_at_every_place(self):
        question = "!(ab+c|de*)&f"
        tree = parse(question)
        for k in range(len(question) + 1):
            spaced = question[:k] + "  " + question[k:]
            inside = question[k - 1:k].isalnum() and question[k:k + 1].isalnum()
            self.assertIs(self.check(spaced), not inside)
            if not inside:
                self.assertEqual(parse(spaced), tree)

    def test_not_of_the_grammar(self):
        for question in ["|", "&", "!", "(", ")", "*", "+", "()", "a|", "|a", "a&", "&a", "a!", "a b", "a (b)", "(a) b",
                         "(a", "a)", "((a)", "(a))", ")a(", "a**", "a*b", "a*+b", "a+b*", "a+", "+a", "a++b", "a+(b)",
                         "a+!b", "(a)*", "(a)+b", "!", "!*", "!|a", "a||b", "a&&b", "a|&b", "a.b", "a-b", "it's", '"a"',
                         "a,b", "a:b", "_", "a=b", "[a]", "a/b", "a;b", "?", "a^b", "~a", "@", "`", "{"]:
            self.assertFalse(self.check(question), question)

    def test_near_questions(self):
        good = 0
        for question in ["red & !(fox | Ho*)", "a+b|c*", "!!a&(b)", "a", "(a|b)&c+d"]:
            for text in near_texts(question, "a B|&!()*+.0"):
                good += self.check(text)
        self.assertGreater(good, 100)

    def test_each_sign(self):
        for code in range(32, 127):
            if code != 37:
                self.check(chr(code))
                self.check(f"a{chr(code)}b")
                self.check(f"a {chr(code)} b")


class TestAnswer(Case):
    def check(self, index, texts, question):
        tree = plain_question(question)
        expected = [name for name in sorted(texts) if answers(tree, plain_words(texts[name]))]
        self.assertEqual(answer(index, question), expected, question)

    def test_examples(self):
        index = index_of(5, {"a": "red fox runs", "b": "The RED house", "c": "fox red house"})
        self.assertEqual(answer(index, "red+house"), ["b", "c"])

    def test_by_hand(self):
        index = index_of(5, TEXTS)
        for question, names in [
                ("red", ["a", "b", "c", "f", "zz9"]), ("RED & !house", ["a", "f", "zz9"]), ("forget", ["e"]),
                ("forgetting", ["e"]), ("ho*", ["b", "c"]), ("house+red", []), ("fox+red+house", ["c"]),
                ("red+red", ["f", "zz9"]), ("red+red+red", []), ("2", ["f"]), ("!x", ["0", "a", "b", "c", "d", "f"]),
                ("none | x", ["e", "zz9"]), ("none & x", []), ("!(red | x)", ["0", "d"]),
                ("r*", sorted("abcf") + ["zz9"]), ("!!none", []), ("forgetful+x", ["e"]), ("forgetful*", ["e"]),
                ("fox+runs", ["a"]), ("red+runs", [])]:
            self.assertEqual(answer(index, question), names, question)

    def test_against_a_walk_over_the_words(self):
        choice = random.Random(42)
        for seed in range(6):
            texts = {}
            for name in choice.sample(["a", "b", "c", "1", "22", "abcd", "z", "y0", "x"], choice.randrange(9)):
                text = " ".join(choice.choices(["red", "Fox", "x", "2", "forgetful", "ho"], k=choice.randrange(6)))
                texts[name] = text[:16]
            index = index_of(seed, texts)
            for _ in range(80):
                for question in random_question(choice)[0]:
                    self.check(index, texts, question)

    def test_an_index_that_knows_nothing(self):
        for question in ["a", "!a", "a*", "a+b", "a|!a", "a&b"]:
            self.assertEqual(answer(Index(5), question), [])

    def test_bad_form(self):
        index = index_of(5, TEXTS)
        image = index.image()
        for question in ["", "fox |", "a" * 41, "(((((((((a)))))))))", "a b", "a.b", "a+b*"]:
            self.fails(BadForm, answer, index, question)
        self.assertEqual(index.image(), image)

    def test_a_returned_list_is_new(self):
        index = index_of(5, TEXTS)
        for question in ["red", "ho*", "!x", "red+red", "red&fox", "red|fox"]:
            found = answer(index, question)
            answer(index, question).clear()
            self.assertEqual(answer(index, question), found)


if __name__ == "__main__":
    unittest.main()
