"""Coins: point 1.5."""

import random
import unittest

from lethe import coins
from lethe.coins import coin
from tests.plain import EQUAL_COINS, SIGNS, Case, plain_coin


class TestCoin(Case):
    def test_examples(self):
        self.assertEqual(coin(0, 0, ""), 48271)
        self.assertEqual(coin(1, 1, ""), 1395845709)

    def test_constants(self):
        values = (coins.HOME, coins.RANK, coins.HEIGHT, coins.SEAL, coins.RECEIPT)
        self.assertEqual(values, (1, 2, 3, 4, 5))

    def test_by_hand(self):
        start = (5 * 48271 + 3 * 69621 + 1) % 2147483647
        after = (start * 16807 + 97 + 1) % 2147483647
        self.assertEqual(coin(5, 3, "a"), (after * 48271 + 1) % 2147483647)

    def test_seeds_tags_and_texts(self):
        choice = random.Random(3)
        texts = ["", " ", "~", "a", "ab", "ba", SIGNS]
        texts += ["".join(choice.choices(SIGNS, k=choice.randrange(50))) for _ in range(50)]
        for seed in [0, 1, 7, 4242, 999999]:
            for tag in range(10):
                for text in texts:
                    self.assertEqual(coin(seed, tag, text), plain_coin(seed, tag, text))

    def test_range(self):
        values = [coin(seed, 3, str(seed)) for seed in range(2000)]
        self.assertTrue(all(0 <= value < 2147483647 for value in values))
        self.assertGreater(max(values), 2147000000)

    def test_different_texts_may_have_the_same_coin(self):
        for first, second in EQUAL_COINS:
            self.assertEqual(coin(7, 3, first), coin(7, 3, second))


if __name__ == "__main__":
    unittest.main()
