"""Promise 6."""

import unittest

from tests.asking import ask, parted, points
from tests.test_deepest import HEXAGON, SQUARE, TRIANGLE

OFF_HEXAGON = [(4, 1)] + HEXAGON[1:]


class Parted(unittest.TestCase):
    def check(self, places, r, row):
        """row: the row that is due, [] for none."""
        with self.subTest(places=places, r=r):
            self.assertEqual(ask(points(*places), parted(r)), [[len(places)], [1] + row if row else [0]])

    def test_one_part(self):
        for size in range(1, 7):
            self.check([(k, k * k) for k in range(size)], 1, [0] * size)
            self.check([(k, 2 * k) for k in range(size)], 1, [0] * size)
            self.check([(5, 5)] * size, 1, [0] * size)

    def test_as_many_parts_as_points(self):
        for size in range(2, 7):
            self.check([(5, 5)] * size, size, list(range(size)))
            self.check([(5, 5)] * (size - 1) + [(5, 6)], size, [])
            self.check([(k, k * k) for k in range(size)], size, [])

    def test_all_at_one_place(self):
        self.check([(5, 5)] * 3, 2, [0, 0, 1])
        self.check([(5, 5)] * 4, 3, [0, 0, 1, 2])
        self.check([(5, 5)] * 6, 2, [0, 0, 0, 0, 0, 1])
        self.check([(5, 5)] * 6, 3, [0, 0, 0, 0, 1, 2])
        self.check([(5, 5)] * 6, 5, [0, 0, 1, 2, 3, 4])

    def test_two_points(self):
        self.check([(0, 0), (1, 0)], 2, [])
        self.check([(0, 0), (0, 0)], 2, [0, 1])

    def test_three_points(self):
        self.check(TRIANGLE, 2, [])
        self.check([(0, 0), (1, 0), (2, 0)], 2, [0, 1, 0])
        self.check([(1, 0), (0, 0), (2, 0)], 2, [0, 1, 1])
        self.check([(0, 0), (2, 0), (1, 0)], 2, [0, 0, 1])
        self.check([(0, 0), (1, 0), (2, 0)], 3, [])

    def test_several_at_one_place(self):
        self.check([(1, 1), (0, 0), (1, 1)], 2, [0, 0, 1])
        self.check([(1, 1), (1, 1), (0, 0)], 2, [0, 1, 0])
        self.check([(0, 0), (1, 1), (1, 1)], 2, [0, 0, 1])
        self.check([(0, 0), (1, 1), (1, 1)], 3, [])
        self.check([(0, 0), (0, 0), (3, 1), (3, 1)], 2, [0, 0, 0, 1])
        self.check([(0, 0), (0, 0), (3, 1), (3, 1)], 3, [])
        self.check([(0, 0), (3, 1), (0, 0), (3, 1), (0, 0)], 3, [0, 0, 1, 0, 2])
        self.check([(0, 0), (3, 1), (3, 1), (0, 0), (0, 0)], 3, [0, 0, 0, 1, 2])
        self.check([(0, 0), (3, 1), (3, 1), (0, 0), (0, 0)], 4, [])

    def test_four_points(self):
        self.check(SQUARE, 2, [0, 1, 0, 1])
        self.check([SQUARE[0], SQUARE[2], SQUARE[1], SQUARE[3]], 2, [0, 0, 1, 1])
        self.check([SQUARE[0], SQUARE[1], SQUARE[3], SQUARE[2]], 2, [0, 1, 1, 0])
        self.check(TRIANGLE + [(2, 2)], 2, [0, 0, 0, 1])
        self.check([(2, 2)] + TRIANGLE, 2, [0, 1, 1, 1])
        self.check(TRIANGLE[:1] + [(2, 2)] + TRIANGLE[1:], 2, [0, 1, 0, 0])
        self.check(SQUARE, 3, [])
        self.check(TRIANGLE + [(2, 2)], 3, [])

    def test_on_the_rim(self):
        self.check(TRIANGLE + [(3, 3)], 2, [0, 0, 0, 1])
        self.check(TRIANGLE + [(3, 4)], 2, [0, 1, 1, 0])
        self.check(TRIANGLE + [(6, 0)], 2, [0, 0, 0, 1])

    def test_one_straight_line(self):
        row = [(2 * k, -k) for k in range(6)]
        self.check(row[:4], 2, [0, 0, 1, 0])
        self.check(row[:5], 2, [0, 0, 0, 1, 0])
        self.check(row[:5], 3, [0, 1, 2, 0, 1])
        self.check(row, 3, [0, 0, 1, 2, 0, 1])
        self.check(row, 4, [])
        self.check(row[:4], 3, [])

    def test_square_and_its_middle(self):
        self.check(SQUARE + [(2, 2)], 3, [0, 1, 0, 1, 2])
        self.check([(2, 2)] + SQUARE, 3, [0, 1, 2, 1, 2])
        self.check(SQUARE + [(2, 2)], 2, [0, 0, 0, 0, 1])
        self.check(SQUARE + [(2, 2), (2, 2)], 4, [0, 1, 0, 1, 2, 3])
        self.check(SQUARE + [(2, 2), (2, 2)], 3, [0, 0, 0, 0, 1, 2])
        self.check(SQUARE + [(2, 1)], 3, [])

    def test_six_points(self):
        self.check(HEXAGON, 3, [0, 1, 2, 0, 1, 2])
        self.check(OFF_HEXAGON, 3, [])
        self.check(TRIANGLE + TRIANGLE, 3, [])
        self.check([(0, 0), (9, 0), (0, 9), (1, 1), (5, 1), (1, 5)], 2, [0, 0, 0, 0, 0, 1])

    def test_outermost_points(self):
        corners = [(-10000, -10000), (10000, -10000), (10000, 10000), (-10000, 10000)]
        self.check(corners, 2, [0, 1, 0, 1])
        self.check(corners + [(0, 0)], 3, [0, 1, 0, 1, 2])
        self.check(corners + [(0, 1)], 3, [])


class Refusals(unittest.TestCase):
    def test_r(self):
        for size in range(1, 7):
            for r in (-2147483648, -1, 0, size + 1, size + 2, 24, 2147483647):
                with self.subTest(size=size, r=r):
                    rows = ask(points(*[(1, 1)] * size), parted(r), parted(1), parted(size))
                    self.assertEqual(rows, [[size], [-1], [1] + [0] * size, [1] + list(range(size))])

    def test_after_points_anew(self):
        rows = ask(parted(1), points((0, 0), (0, 0)), parted(2), points((0, 0)), parted(2), parted(1),
                   points((0, 0), (1, 0), (10001, 0)), parted(2), points((0, 0), (2, 0), (1, 0)), parted(2))
        self.assertEqual(rows, [[-4], [2], [1, 0, 1], [1], [-1], [1, 0], [-1], [-1], [3], [1, 0, 0, 1]])
