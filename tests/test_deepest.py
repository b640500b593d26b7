"""Promise 5."""

import unittest

from tests.asking import ask, deepest, depth, points

TRIANGLE = [(0, 0), (6, 0), (0, 6)]
SQUARE = [(0, 0), (4, 0), (4, 4), (0, 4)]
PENTAGON = [(0, 10), (10, 3), (6, -8), (-6, -8), (-10, 3)]
HEXAGON = [(4, 0), (2, 3), (-2, 3), (-4, 0), (-2, -3), (2, -3)]
HEPTAGON = [(0, 100), (78, 62), (97, -22), (43, -90), (-43, -90), (-97, -22), (-78, 62)]


class Deepest(unittest.TestCase):
    def check(self, places, told):
        for some in (places, places[::-1], places[1:] + places[:1]):
            with self.subTest(places=some):
                self.assertEqual(ask(points(*some), deepest()), [[len(some)], [told]])

    def test_one_point(self):
        for place in ((0, 0), (3, -4), (-10000, 10000)):
            self.check([place], 1)

    def test_several_at_one_place(self):
        for size in range(1, 8):
            self.check([(-3, 8)] * size, size)

    def test_two_places(self):
        self.check([(0, 0), (2, 2)], 1)
        self.check([(0, 0), (2, 2), (2, 2)], 2)
        self.check([(0, 0)] * 3 + [(2, 2)] * 3, 3)
        self.check([(0, 0)] * 3 + [(2, 2)] * 4, 4)

    def test_one_straight_line(self):
        for a, b in ((1, 0), (0, 1), (2, 1), (-3, 5)):
            row = [(a * k, b * k) for k in range(7)]
            for size, told in ((2, 1), (3, 2), (4, 2), (5, 3), (6, 3), (7, 4)):
                self.check(row[:size], told)
        self.check([(1, 0), (1, 2), (1, 2), (1, 5)], 3)
        self.check([(1, 0), (1, 0), (1, 2), (1, 5), (1, 5)], 3)
        self.check([(1, 0), (1, 0), (1, 5), (1, 5)], 2)

    def test_triangle(self):
        self.check(TRIANGLE, 1)
        self.check(TRIANGLE + [(2, 2)], 2)
        self.check(TRIANGLE + [(2, 2), (2, 2)], 3)
        self.check(TRIANGLE + [(3, 3)], 2)
        self.check(TRIANGLE + [(7, 7)], 2)

    def test_every_corner_twice(self):
        self.check(TRIANGLE * 2, 2)

    def test_square_without_and_with_its_middle(self):
        self.check(SQUARE, 2)
        self.check(SQUARE + [(2, 2)], 3)
        self.check(SQUARE + [(2, 2)] * 3, 5)

    def test_square_with_a_point_off_its_middle(self):
        self.check(SQUARE + [(2, 1)], 2)
        self.check(SQUARE + [(1, 1)], 2)

    def test_only_at_a_place_that_is_no_point(self):
        # The stretches cross at (2, 4/3), and no point is deeper than 1.
        crossed = [(0, 0), (3, 2), (0, 2), (6, 0)]
        self.check(crossed, 2)
        rows = ask(points(*crossed), *[depth(x, y) for x, y in crossed], depth(6, 4, 3))
        self.assertEqual(rows, [[4], [1], [1], [1], [1], [2]])

    def test_three_stretches_through_one_place(self):
        self.check(HEXAGON, 3)
        self.check(HEXAGON + [(0, 0)], 4)

    def test_three_stretches_that_miss_one_another(self):
        self.check([(4, 1)] + HEXAGON[1:], 2)

    def test_rings_of_an_odd_count(self):
        self.check(PENTAGON, 2)
        self.check(HEPTAGON, 3)

    def test_outermost_points(self):
        corners = [(-10000, -10000), (10000, -10000), (10000, 10000), (-10000, 10000)]
        self.check(corners, 2)
        self.check(corners + [(0, 0)], 3)
        self.check(corners + [(0, 1)], 2)
        # A hair off the stretch from corner to corner, and on it.
        self.check([(-10000, -10000), (10000, 9999), (0, 0)], 1)
        self.check([(-10000, -10000), (10000, 10000), (9999, 9999)], 2)

    def test_after_points_anew(self):
        rows = ask(deepest(), points(*SQUARE), deepest(), points((1, 1)), deepest(), points((10001, 0)), deepest(),
                   points((1, 1), (1, 1)), deepest())
        self.assertEqual(rows, [[-4], [4], [2], [1], [1], [-1], [1], [2], [2]])
