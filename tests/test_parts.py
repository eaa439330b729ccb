"""The parts of a hall: point 6.1."""

import unittest

from lethe.edges import Edges
from lethe.log import Log
from lethe.parts import Parts
from lethe.pins import Pins
from lethe.snaps import Snaps
from lethe.store import Store
from tests.test_store import SOME, plain_of, store_of


class TestParts(unittest.TestCase):
    def test_fields(self):
        for seed in [0, 5, 999999]:
            parts = Parts(seed)
            self.assertEqual(parts.seed, seed)
            found = [parts.store, parts.edges, parts.log, parts.snaps, parts.pins]
            self.assertEqual([type(part) for part in found], [Store, Edges, Log, Snaps, Pins])
            self.assertEqual(parts.transactions, {})

    def test_all_parts_have_the_seed(self):
        parts = Parts(7)
        parts.snaps.take("x", plain_of(7, SOME).map_image())
        for line in SOME:
            parts.store.run(line)
        self.assertEqual(parts.store.map_image(), store_of(7, SOME).map_image())
        parts.snaps.erase("none")
        self.assertEqual(parts.snaps.answer("x", "receipt a"), parts.store.run("receipt a"))

    def test_each_object_has_parts_of_its_own(self):
        first, second = Parts(5), Parts(5)
        first.store.run('put a 1 2 3 ""')
        first.transactions["s"] = None
        self.assertEqual((second.store.size(), second.transactions), (0, {}))


if __name__ == "__main__":
    unittest.main()
