"""The post: point 8.2."""

import random
import unittest

from lethe import post as module
from lethe.errors import BadForm, Missing
from lethe.letters import ask_letter, done_letter, part_letters
from lethe.post import Post
from tests.plain import Case

LETTERS = [ask_letter("t1", 3), done_letter("t2", 3, 5), *part_letters("t1", 3, 5, {"map": "12", "log": ""})]
NO_LETTERS = ["", "ask", "3:ask2:t11:0", "3:ask2:t41:3", "3:ask2:t1"]


def letter(number):
    return ask_letter("t1", number)


def post_of(letters):
    post = Post()
    for one in letters:
        post.send(one)
    return post


class PostCase(Case):
    def check_is(self, post, row):
        self.assertEqual(post.letters(), row)
        self.assertEqual((post.size(), post.room()), (len(row), 40 - len(row)))


class TestPost(PostCase):
    def test_constant(self):
        self.assertEqual(module.MAX_LETTERS, 40)

    def test_empty(self):
        self.check_is(Post(), [])

    def test_send(self):
        post = Post()
        for k in range(len(LETTERS)):
            self.assertIs(post.send(LETTERS[k]), True)
            self.check_is(post, LETTERS[:k + 1])
        self.assertIs(post.send(LETTERS[0]), True)
        self.check_is(post, LETTERS + LETTERS[:1])

    def test_deliver(self):
        for k in range(len(LETTERS)):
            post = post_of(LETTERS)
            self.assertEqual(post.deliver(k), LETTERS[k])
            self.check_is(post, LETTERS[:k] + LETTERS[k + 1:])

    def test_lose(self):
        for k in range(len(LETTERS)):
            post = post_of(LETTERS)
            self.assertIsNone(post.lose(k))
            self.check_is(post, LETTERS[:k] + LETTERS[k + 1:])

    def test_double(self):
        for k in range(len(LETTERS)):
            post = post_of(LETTERS)
            self.assertIs(post.double(k), True)
            self.check_is(post, LETTERS[:k + 1] + LETTERS[k:])
            self.assertEqual(post.deliver(k), LETTERS[k])
            self.check_is(post, LETTERS)

    def test_39_and_40_letters(self):
        for many in [38, 39, 40]:
            row = [letter(1 + k) for k in range(many)]
            post = post_of(row)
            self.check_is(post, row)
            self.assertIs(post.send(letter(99)), many < 40)
            self.check_is(post, (row + [letter(99)])[:40])
            for k in [0, 20, many - 1]:
                post = post_of(row)
                self.assertIs(post.double(k), many < 40)
                self.check_is(post, row[:k + 1] + row[k:] if many < 40 else row)

    def test_room_behind_40_letters(self):
        row = [letter(1 + k) for k in range(40)]
        post = post_of(row)
        self.assertIs(post.send(letter(99)), False)
        post.lose(7)
        self.assertIs(post.double(38), True)
        self.check_is(post, row[:7] + row[8:] + row[39:])
        self.assertIs(post.double(0), False)

    def test_missing(self):
        for row in [[], LETTERS[:1], LETTERS, [letter(1 + k) for k in range(40)]]:
            post = post_of(row)
            for index in [-1, -2, len(row), len(row) + 1, -len(row) - 1, 40, 10 ** 20]:
                if not 0 <= index < len(row):
                    self.fails(Missing, post.deliver, index)
                    self.fails(Missing, post.lose, index)
                    self.fails(Missing, post.double, index)
            self.check_is(post, row)

    def test_bad_form(self):
        for row in [[], LETTERS, [letter(1 + k) for k in range(40)]]:
            post = post_of(row)
            for text in NO_LETTERS:
                self.fails(BadForm, post.send, text)
            self.check_is(post, row)

    def test_returned_lists_may_be_changed(self):
        post = post_of(LETTERS)
        post.letters().clear()
        self.check_is(post, LETTERS)

    def test_random_posts(self):
        choice = random.Random(82)
        for chance in [3, 5, 8]:
            post, row = Post(), []
            for number in range(1, 400):
                turn, index = choice.randrange(10), choice.randrange(-1, 42)
                if turn < chance:
                    self.assertIs(post.send(letter(number)), len(row) < 40)
                    row = (row + [letter(number)])[:40]
                elif index not in range(len(row)):
                    self.fails(Missing, choice.choice([post.deliver, post.lose, post.double]), index)
                elif turn == chance:
                    self.assertIs(post.double(index), len(row) < 40)
                    row = row[:index + 1] + row[index:] if len(row) < 40 else row
                elif turn % 2:
                    self.assertEqual(post.deliver(index), row[index])
                    row = row[:index] + row[index + 1:]
                else:
                    post.lose(index)
                    row = row[:index] + row[index + 1:]
                self.check_is(post, row)


if __name__ == "__main__":
    unittest.main()
