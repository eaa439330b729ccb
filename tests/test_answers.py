"""What home sends when a letter arrives: point 8.3."""

import unittest

from lethe.answers import answer
from lethe.errors import BadForm, NotAllowed
from lethe.letters import ask_letter, done_letter, part_letters
from tests.plain import Case
from tests.test_letters import FILES, NO_FILES, NO_NUMBERS, NUMBERS, TWINS, plain_parts
from tests.test_post import NO_LETTERS


class TestAnswer(Case):
    def test_asks(self):
        for twin in TWINS:
            for question, moment in zip(NUMBERS, NUMBERS[1:] + NUMBERS[:1]):
                for many in range(len(FILES) + 1):
                    files = {name: FILES[name] for name in list(FILES)[:many]}
                    before = dict(files)
                    found = answer(ask_letter(twin, question), moment, files)
                    self.assertEqual(found, plain_parts(twin, question, moment, files))
                    self.assertEqual(files, before)

    def test_twice(self):
        ask = ask_letter("t1", 3)
        self.assertEqual(answer(ask, 5, {"map": "1"}), plain_parts("t1", 3, 5, {"map": "1"}))
        self.assertEqual(answer(ask, 4, {"map": "2"}), plain_parts("t1", 3, 4, {"map": "2"}))

    def test_other_letters(self):
        for letter in [done_letter("t1", 3, 5), *part_letters("t1", 3, 5, FILES), *part_letters("t1", 3, 5, {})]:
            for files in [{}, FILES]:
                self.assertEqual(answer(letter, 6, files), [])

    def test_bad_form(self):
        for text in NO_LETTERS + ["x", "4:done2:t11:3"]:
            for moment, files in [(5, {}), (5, FILES), (0, {"A": ""})]:
                self.fails(BadForm, answer, text, moment, files)

    def test_not_allowed(self):
        ask = ask_letter("t1", 3)
        for moment in NO_NUMBERS:
            self.fails(NotAllowed, answer, ask, moment, {"map": "1"})
        for files in NO_FILES + [{f"f{k}": "" for k in range(31)}]:
            self.fails(NotAllowed, answer, ask, 5, files)

    def test_returned_lists_may_be_changed(self):
        ask = ask_letter("t1", 3)
        answer(ask, 5, FILES).clear()
        answer(done_letter("t1", 3, 5), 5, FILES).append("x")
        self.assertEqual(answer(ask, 5, FILES), plain_parts("t1", 3, 5, FILES))
        self.assertEqual(answer(done_letter("t1", 3, 5), 5, FILES), [])


if __name__ == "__main__":
    unittest.main()
