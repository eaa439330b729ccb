"""The order of effects: point 10.4."""

import unittest

from lethe.history import History


class TestHistory(unittest.TestCase):
    def test_in_order(self):
        history = History()
        self.assertEqual(history.effects(), [])
        rows = [["a", "b"], [], ["c"]]
        for row in rows:
            history.note(row)
        self.assertEqual(history.effects(), ["a", "b", "c"])
        rows[0].append("x")
        history.effects().append("y")
        self.assertEqual(history.effects(), ["a", "b", "c"])

    def test_what_was_lost_at_first(self):
        for made in [True, False]:
            history = History()
            history.lose("home", [])
            history.note(["b"])
            history.resolve("home", made, ["a"])
            self.assertEqual(history.effects(), ["a", "b"] if made else ["b"])

    def test_what_was_lost(self):
        for made in [True, False]:
            history = History()
            history.note(["a"])
            history.lose("home", [])
            history.lose("v1", ["k"])
            history.note(["b"])
            self.assertEqual(history.effects(), ["a", "b"])
            history.resolve("v2", True, ["never"])
            history.resolve("home", made, ["l", "m"] if made else [])
            self.assertEqual(history.effects(), ["a", "l", "m", "b"] if made else ["a", "b"])
            history.resolve("v1", not made, [])
            self.assertEqual(history.effects(), ["a", "l", "m", "b"] if made else ["a", "k", "b"])
            history.resolve("v1", True, [])
            self.assertEqual(history.effects(), ["a", "l", "m", "b"] if made else ["a", "k", "b"])


if __name__ == "__main__":
    unittest.main()
