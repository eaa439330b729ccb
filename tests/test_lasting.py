"""The lasting files of a hall: point 6.20."""

import unittest

from lethe.lasting import lasting_files
from lethe.log import load_log
from lethe.hall import Hall
from lethe.pins import load_pins
from lethe.sessions import Transaction
from lethe.snaps import load_snaps
from lethe.edges import load_edges
from lethe.store import load_store
from tests.plain import plain_pack
from tests.test_erase import HallCase, other_hall


class TestLastingFiles(HallCase):
    def test_a_hall_without_parts(self):
        for make in [Hall, other_hall]:
            self.assertEqual(lasting_files(make(5)), {"map": "0;"})

    def test_a_hall_with_all_parts(self):
        for make in [Hall, other_hall]:
            for seed in [0, 5, 999999]:
                self.begin(make(seed), seed)
                self.fill()
                files = lasting_files(self.hall)
                self.assertEqual(files, self.plain.lasting())
                self.assertEqual(sorted(files), ["edges", "log", "map", "pins", "points", "snaps", "words"])
                store = load_store(seed, files["map"], files["words"], files["points"])
                self.assertEqual(store.run("view"), self.plain.store.run("view"))
                self.assertEqual(load_edges(files["edges"]).edges(), sorted(self.plain.edges))
                self.assertEqual(load_log(files["log"]).lines(), self.plain.log)
                self.assertEqual(load_snaps(seed, files["snaps"]).names(), ["a", "x"])
                self.assertEqual(load_pins(files["pins"], store).names(), ["a", "p", "q"])

    def test_each_part_alone(self):
        self.begin(Hall(5), 5)
        self.change('put a 1 2 3 "x"')
        self.assertEqual(sorted(lasting_files(self.hall)), ["map", "points", "words"])
        self.check_is()
        self.begin(Hall(5), 5)
        self.link("a", 0, "b")
        self.assertEqual(lasting_files(self.hall), {"map": "0;", "edges": "1:a1:01:b"})
        self.begin(Hall(5), 5)
        self.note("drop a")
        self.note("drop b")
        self.assertEqual(lasting_files(self.hall), {"map": "0;", "log": "6:drop a6:drop b"})
        self.begin(Hall(5), 5)
        self.take("y")
        self.take("x")
        self.assertEqual(lasting_files(self.hall), {"map": "0;", "snaps": "1:x2:0;1:y2:0;"})
        self.begin(Hall(5), 5)
        self.keep("y", "count")
        self.keep("x", "view")
        self.assertEqual(lasting_files(self.hall), {"map": "0;", "pins": "1:x4:view1:-1:y5:count1:0"})

    def test_a_record_without_words(self):
        self.begin(Hall(5), 5)
        self.change('put a 3 2 1 ""')
        self.assertEqual(lasting_files(self.hall), {
            "map": plain_pack(["a", plain_pack(["3", "2", "1", "0", ""])]).join(["1;0", ""]),
            "words": "1;02:.a1:0", "points": "1;07:00013.a3:3,2"})

    def test_transactions_have_no_influence(self):
        self.begin(Hall(5), 5)
        self.fill()
        files = lasting_files(self.hall)
        self.open("z", ['put zz 1 1 1 "zz"', "drop a", "hold c me"])
        self.assertEqual(lasting_files(self.hall), files)
        self.hall.transactions.clear()
        self.assertEqual(lasting_files(self.hall), files)
        hall = Hall(5)
        hall.transactions["s"] = Transaction(5, "0;")
        hall.transactions["s"].run('put a 1 2 3 ""')
        self.assertEqual(lasting_files(hall), {"map": "0;"})

    def test_what_is_gone_leaves_nothing(self):
        self.begin(Hall(5), 5)
        self.fill()
        for name in ["a", "x"]:
            self.hall.snaps.remove_one(name)
        for name in ["a", "p", "q"]:
            self.hall.pins.remove_one(name)
        for key in ["a", "b", "b1", "c"]:
            self.hall.store.erase(key)
            self.hall.edges.drop(key)
            self.hall.log.erase(key)
        self.assertEqual(lasting_files(self.hall), {"map": "0;"})

    def test_a_new_dict(self):
        self.begin(Hall(5), 5)
        self.fill()
        lasting_files(self.hall).clear()
        self.check_is()


if __name__ == "__main__":
    unittest.main()
