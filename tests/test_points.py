"""Points under names: points 4.7 and 4.8."""

import random
import unittest

from lethe.errors import BadForm, Full, Missing, NotAllowed, Twice
from lethe.points import Points, code, load_points
from tests.plain import Case, is_tree_image, near_texts, plain_tree_image, shown_entries
from tests.plain_store import plain_code, plain_points_image

POINTS = {"p": (0, 0), "q": (3, 4), "r": (0, 5), "zz9": (99, 99), "0": (99, 0), "b": (0, 99), "c": (3, 4)}
# Each point by its code and its digits, as an entry of the order shows them.
WRITTEN = {(f"{plain_code(x, y):05d}.", f"{x},{y}"): (x, y) for x in range(100) for y in range(100)}


def points_of(seed, places):
    points = Points(seed)
    for name, (x, y) in places.items():
        points.put(name, x, y)
    return points


def shown_points(seed, image):
    """Return the dict of points that have this image, or None, by a look at all points there are."""
    if not is_tree_image(seed, image):
        return None
    places = {}
    for key, value in shown_entries(image):
        written, name = key[:6], key[6:]
        named = 1 <= len(name) <= 4 and all(c in "abcdefghijklmnopqrstuvwxyz0123456789" for c in name)
        if (written, value) not in WRITTEN or not named or name in places:
            return None
        places[name] = WRITTEN[(written, value)]
    return places if len(places) <= 8 else None


class PointsCase(Case):
    def check_is(self, points, seed, places):
        self.assertEqual(points.names(), sorted(places))
        self.assertEqual(points.image(), plain_points_image(seed, places))
        for name in list(places) + ["none", "", "A", "a.b", "longer", "."]:
            if name in places:
                self.assertEqual(points.point_of(name), places[name])
            else:
                self.fails(Missing, points.point_of, name)

    def check_asked(self, points, places, corners, many):
        x0, y0, x1, y1 = corners
        inside = [name for name in sorted(places) if places[name][0] in range(x0, x1 + 1)
                  and places[name][1] in range(y0, y1 + 1)]
        self.assertEqual(points.inside(x0, y0, x1, y1), inside)
        far = {name: (x - x0) ** 2 + (y - y0) ** 2 for name, (x, y) in places.items()}
        nearest = sorted(sorted(places), key=lambda name: far[name])[:many if many > 0 else 0]
        self.assertEqual(points.nearest(x0, y0, many), nearest)


class TestCode(Case):
    def test_example(self):
        self.assertEqual(code(3, 2), 13)

    def test_by_hand(self):
        for x, y, expected in [(0, 0, 0), (1, 0, 1), (0, 1, 2), (1, 1, 3), (2, 0, 4), (0, 2, 8), (4, 0, 16),
                               (99, 0, 5125), (0, 99, 10250), (99, 99, 15375), (64, 64, 12288)]:
            self.assertEqual(code(x, y), expected)

    def test_all_points(self):
        found = {code(x, y): (x, y) for x in range(100) for y in range(100)}
        self.assertEqual(len(found), 10000)
        for number, (x, y) in found.items():
            self.assertEqual(number, plain_code(x, y))


class TestPoints(PointsCase):
    def test_example(self):
        points = points_of(5, {"p": (0, 0), "q": (3, 4), "r": (0, 5)})
        self.assertEqual(points.nearest(0, 0, 3), ["p", "q", "r"])

    def test_by_hand(self):
        points = points_of(5, {"p": (3, 2)})
        self.assertEqual(points.image(), "1;07:00013.p3:3,2")
        self.assertEqual(points_of(6, {"ab": (99, 99)}).image(), "1;08:15375.ab5:99,99")
        self.assertEqual(Points(5).image(), "0;")

    def test_knows_nothing(self):
        points = Points(5)
        self.check_is(points, 5, {})
        self.assertEqual(points.inside(0, 0, 99, 99), [])
        self.assertEqual(points.nearest(0, 0, 5), [])
        self.fails(Missing, points.drop, "a")

    def test_long_history(self):
        choice = random.Random(47)
        for seed in [0, 5, 999999]:
            points, places = Points(seed), {}
            for step in range(200):
                name = choice.choice(["a", "b", "ab", "b1", "c", "d", "e", "f", "ffff", "0", "9z"])
                x, y = choice.choice([0, 1, 50, 99]), choice.choice([0, 2, 98, 99])
                if name in places and choice.random() < 0.6:
                    del places[name]
                    self.assertIsNone(points.drop(name))
                elif name in places:
                    self.fails(Twice, points.put, name, x, y)
                elif len(places) == 8:
                    self.fails(Full, points.put, name, x, y)
                else:
                    places[name] = (x, y)
                    self.assertIsNone(points.put(name, x, y))
                if step % 4 == 0:
                    self.check_is(points, seed, places)

    def test_edges_of_the_range(self):
        for x, y in [(0, 0), (0, 99), (99, 0), (99, 99)]:
            self.check_is(points_of(5, {"a": (x, y)}), 5, {"a": (x, y)})
        points = points_of(5, POINTS)
        for x, y in [(-1, 0), (0, -1), (100, 0), (0, 100), (-1, -1), (100, 100), (1000, 5)]:
            for name in ["new", "p", "A"]:
                self.fails(NotAllowed, points.put, name, x, y)
        self.check_is(points, 5, POINTS)

    def test_names(self):
        points = points_of(5, POINTS)
        for name in ["", "abcde", "A", "a b", "a.", ".", "-"]:
            self.fails(NotAllowed, points.put, name, 5, 5)
            self.fails(Missing, points.drop, name)
        self.check_is(points, 5, POINTS)

    def test_eight_points_and_one_more(self):
        places = {str(k): (k, k) for k in range(8)}
        points = points_of(5, places)
        self.fails(Full, points.put, "8", 0, 0)
        self.fails(Twice, points.put, "7", 0, 0)
        self.fails(NotAllowed, points.put, "7", 0, 100)
        self.fails(NotAllowed, points.put, "8", 0, 100)
        self.fails(NotAllowed, points.put, "long5", 0, 0)
        self.check_is(points, 5, places)
        points.drop("3")
        points.put("8", 3, 3)
        self.fails(Full, points.put, "3", 0, 0)

    def test_inside_and_nearest(self):
        choice = random.Random(48)
        for seed in range(12):
            names = choice.sample(["a", "b", "c", "ab", "b1", "zz", "0", "00", "9"], choice.randrange(9))
            near = [0, 1, 2, 3, 98, 99]
            places = {name: (choice.choice(near), choice.choice(near)) for name in names}
            points = points_of(seed, places)
            for _ in range(60):
                corners = [choice.choice(near + [-5, -1, 50, 100, 101, 10 ** 12]) for _ in range(2)]
                corners += [choice.choice(near + [-5, -1, 50, 100, 101]) for _ in range(2)]
                self.check_asked(points, places, corners, choice.randrange(-2, 11))

    def test_corners(self):
        points = points_of(5, POINTS)
        self.assertEqual(points.inside(3, 4, 3, 4), ["c", "q"])
        self.assertEqual(points.inside(4, 4, 3, 4), [])
        self.assertEqual(points.inside(3, 5, 3, 4), [])
        self.assertEqual(points.inside(0, 0, 99, 99), sorted(POINTS))
        self.assertEqual(points.inside(-10 ** 20, -1, 10 ** 20, 100), sorted(POINTS))
        self.assertEqual(points.inside(1, 1, 98, 98), ["c", "q"])

    def test_many(self):
        points = points_of(5, POINTS)
        order = ["p", "c", "q", "r", "0", "b", "zz9"]
        for many in [-10, -1, 0, 1, 2, 3, 6, 7, 8, 100, 10 ** 20]:
            self.assertEqual(points.nearest(0, 0, many), order[:max(0, many)])
        self.assertEqual(points.nearest(99, 0, 1), ["0"])
        self.assertEqual(points.nearest(10 ** 9, -10 ** 9, 2), ["0", "p"])

    def test_returned_lists_are_new(self):
        points = points_of(5, POINTS)
        for found in [points.names(), points.inside(0, 0, 99, 99), points.nearest(0, 0, 8)]:
            self.assertEqual(len(found), 7)
            found.clear()
        self.check_is(points, 5, POINTS)


class TestLoadPoints(PointsCase):
    def check_text(self, seed, image):
        places = shown_points(seed, image)
        if places is None:
            self.fails(BadForm, load_points, seed, image)
        else:
            self.check_is(load_points(seed, image), seed, places)
        return places is not None

    def check_rows(self, rows, good):
        self.assertIs(self.check_text(7, plain_tree_image(7, rows)), good, rows)

    def test_what_was_written_is_read(self):
        full = {str(k): (k, 99 - k) for k in range(8)}
        for places in [{}, {"a": (0, 0)}, POINTS, full, {"abcd": (99, 99), "b": (99, 99)}]:
            self.assertTrue(self.check_text(4, plain_points_image(4, places)))

    def test_loaded_points_go_on(self):
        points = load_points(4, plain_points_image(4, POINTS))
        points.drop("p")
        points.put("new", 7, 7)
        places = {name: POINTS[name] for name in POINTS if name != "p"}
        self.check_is(points, 4, {**places, "new": (7, 7)})

    def test_near_texts(self):
        good = 0
        for places in [{}, {"a": (3, 2)}, {"a": (1, 0), "b": (12, 7)}]:
            for text in near_texts(plain_points_image(7, places), "ab0123.,:;"):
                good += self.check_text(7, text)
        self.assertGreater(good, 0)

    def test_wrong_rows(self):
        self.check_rows({"00013.p": "3,2"}, True)
        for key, value in [("00013.p", "2,3"), ("00013.p", "3,02"), ("00013.p", "03,2"), ("00013.p", "3,2,"),
                           ("00013.p", "3, 2"), ("00013.p", "3"), ("00013.p", ""), ("00013.p", "3.2"),
                           ("00013.p", ",2"), ("00013.p", "3,"), ("00013.p", "+3,2"), ("00014.p", "3,2"),
                           ("0013.p", "3,2"), ("13.p", "3,2"), ("000013.p", "3,2"), ("00013p", "3,2"),
                           ("00013:p", "3,2"), ("00013.", "3,2"), ("00013..p", "3,2"), ("00013.P", "3,2"),
                           ("00013.abcde", "3,2"), ("00013", "3,2"), (" 0013.p", "3,2"), ("p.00013", "3,2"),
                           ("00013.p ", "3,2"), ("00013.a.b", "3,2"), ("05136.p", "100,0"), ("10272.p", "0,100"),
                           ("00000.p", "0,0 "), ("00000.p", "-0,0")]:
            self.check_rows({key: value}, False)
        self.check_rows({"00013.p": "3,2", "00000.p": "0,0"}, False)
        self.check_rows({"00013.p": "3,2", "00000.q": "0,0"}, True)

    def test_numbers_of_points(self):
        rows = {f"{plain_code(k, k):05d}.{k}": f"{k},{k}" for k in range(8)}
        self.check_rows(rows, True)
        self.check_rows({**rows, "00000.a": "0,0"}, False)

    def test_images_of_no_order(self):
        good = plain_points_image(7, POINTS)
        for text in ["", "0", ";", "00;", "1;", "0;.", good[1:], good + "0", good[:-1], "1" + good, good + good]:
            self.fails(BadForm, load_points, 7, text)
        self.fails(BadForm, load_points, 8, good)


if __name__ == "__main__":
    unittest.main()
