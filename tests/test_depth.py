"""Promise 4."""

import unittest

from tests.asking import ask, ask_of, depth, points
from tests.test_ahead import FAR, WRONG_PLACES

SQUARE = [(0, 0), (4, 0), (4, 4), (0, 4)]


class Depth(unittest.TestCase):
    def check(self, places, told):
        """told: the depth that is due for each place (x, y, d)."""
        rows = ask_of(places, [depth(*place) for place in told])
        for place, row in zip(told, rows):
            with self.subTest(places=places, place=place):
                self.assertEqual(row, [told[place]])

    def test_square(self):
        self.check(SQUARE, {
            (2, 2, 1): 2, (1, 2, 1): 1, (3, 3, 1): 1,
            (2, 0, 1): 1, (4, 3, 1): 1, (0, 0, 1): 1, (4, 4, 1): 1,
            (5, 2, 1): 0, (-1, -1, 1): 0, (6, 0, 1): 0, (8, 8, 1): 0,
        })

    def test_a_point_amid(self):
        self.check(SQUARE + [(2, 2)], {(2, 2, 1): 3, (1, 1, 1): 1, (3, 2, 1): 1, (2, 1, 1): 1, (0, 0, 1): 1})

    def test_several_at_one_place(self):
        self.check(SQUARE + [(2, 2)] * 3, {(2, 2, 1): 5, (2, 3, 1): 1, (4, 2, 1): 1, (5, 5, 1): 0})
        self.check([(0, 0), (0, 0), (4, 0), (4, 0), (4, 0), (0, 4)], {
            (0, 0, 1): 2, (4, 0, 1): 3, (0, 4, 1): 1, (2, 0, 1): 2, (0, 2, 1): 1, (1, 1, 1): 1, (-1, 0, 1): 0,
        })
        self.check([(-3, 8)] * 5, {(-3, 8, 1): 5, (-6, 16, 2): 5, (-3, 9, 1): 0, (0, 0, 1): 0})

    def test_two_triangles(self):
        outer = [(-9, -9), (9, -9), (0, 9)]
        inner = [(-1, -1), (1, -1), (0, 1)]
        self.check(outer + inner, {
            (0, 0, 1): 2, (0, 1, 1): 2, (0, -1, 1): 2, (0, 2, 1): 1, (0, 9, 1): 1, (0, -9, 1): 1, (0, 10, 1): 0,
        })

    def test_one_straight_line(self):
        row = [(0, 0), (2, 1), (4, 2), (6, 3), (8, 4)]
        self.check(row, {
            (0, 0, 1): 1, (2, 1, 2): 1, (2, 1, 1): 2, (6, 3, 2): 2, (4, 2, 1): 3, (10, 5, 2): 2, (8, 4, 1): 1,
            (10, 5, 1): 0, (-2, -1, 1): 0, (4, 3, 1): 0, (4, 1, 1): 0,
        })
        self.check([(1, 0), (1, 2), (1, 2), (1, 5)], {(1, 2, 1): 3, (1, 1, 1): 1, (1, 3, 1): 1, (1, 6, 1): 0})

    def test_one_and_two_points(self):
        self.check([(3, 4)], {(3, 4, 1): 1, (6, 8, 2): 1, (3, 5, 1): 0, (6, 8, 1): 0})
        self.check([(0, 0), (2, 2)], {(0, 0, 1): 1, (1, 1, 1): 1, (2, 2, 1): 1, (3, 3, 1): 0, (1, 0, 1): 0})

    def test_a_ring_of_24(self):
        quarter = [(24, 7), (20, 15), (15, 20), (7, 24), (25, 0), (-4, 25)]
        ring = []
        for a, b in quarter:
            ring.extend([(a, b), (-b, a), (-a, -b), (b, -a)])
        self.check(ring, {(0, 0, 1): 12, (25, 0, 1): 1, (26, 0, 1): 0})

    def test_places_whose_d_is_above_1(self):
        self.check([(0, 0), (1, 0), (0, 1)], {
            (1, 1, 3): 1, (1, 1, 2): 1, (51, 50, 100): 0, (1, 1, FAR): 1, (-1, 1, FAR): 0, (FAR, 0, FAR): 1,
            (FAR // 2 + 1, FAR // 2, FAR): 0, (0, 0, FAR): 1,
        })
        self.check([(0, 0), (1, 0), (1, 1), (0, 1)], {(1, 1, 2): 2, (1, 1, 3): 1, (499, 500, 1000): 1})

    def test_outermost_places_taken(self):
        self.check([(1, 1), (-1, 1)], {
            (FAR, FAR, FAR): 1, (-FAR, FAR, FAR): 1, (FAR, -FAR, FAR): 0, (FAR, FAR, 1): 0, (-FAR, -FAR, 1): 0,
        })


class Refusals(unittest.TestCase):
    def check(self, place):
        with self.subTest(place=place):
            self.assertEqual(ask(points((0, 0), (1, 1)), depth(*place)), [[2], [-1]])

    def test_places(self):
        for place in WRONG_PLACES:
            self.check(place)

    def test_outermost_longs_one_by_one(self):
        for number in (-9223372036854775808, 9223372036854775807):
            self.check((number, 0, 1))
            self.check((0, number, 1))
            self.check((0, 0, number))
