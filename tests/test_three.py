"""Promise 3; its refusals stand with those of promise 2."""

import unittest

from tests.asking import ask_of, three
from tests.test_ahead import FAR

SQUARE = [(0, 0), (4, 0), (4, 4), (0, 4)]


class Three(unittest.TestCase):
    def check(self, places, chosen, told):
        """told: the set that is due for each place (x, y, d), 0 for none."""
        rows = ask_of(places, [three(chosen, *place) for place in told])
        for place, row in zip(told, rows):
            with self.subTest(chosen=chosen, place=place):
                self.assertEqual(row, [1, told[place]] if told[place] else [0])

    def test_square(self):
        self.check(SQUARE, 15, {
            (0, 0, 1): 1, (4, 0, 1): 2, (4, 4, 1): 4, (0, 4, 1): 8,
            (2, 0, 1): 3, (4, 3, 1): 6, (1, 4, 1): 12, (0, 1, 1): 9,
            (2, 2, 1): 5, (1, 1, 1): 5, (3, 1, 1): 7, (1, 2, 1): 11, (1, 3, 1): 10, (2, 3, 1): 13, (5, 2, 1): 0,
        })

    def test_only_points_of_the_set(self):
        self.check(SQUARE, 14, {(2, 2, 1): 10, (3, 3, 1): 14, (1, 1, 1): 0, (3, 1, 1): 10, (0, 0, 1): 0})
        self.check(SQUARE, 13, {(2, 2, 1): 5, (1, 2, 1): 13, (2, 1, 1): 0, (4, 0, 1): 0})

    def test_the_lesser_number_ahead_of_the_fewer_points(self):
        triangle = [(0, 0), (6, 0), (0, 6), (2, 2)]
        self.check(triangle, 15, {(2, 2, 1): 7})
        self.check(triangle, 14, {(2, 2, 1): 8})
        self.check([(0, 0), (6, 0), (0, 6), (1, 2), (3, 2)], 31, {(2, 2, 1): 7})
        self.check([(0, 0), (6, 0), (0, 6), (1, 2), (3, 2)], 25, {(2, 2, 1): 24})
        # {0, 1, 3} is a lesser number than {0, 4}.
        self.check([(-5, 0), (0, 4), (-3, -3), (3, -3), (5, 0)], 31, {(0, 0, 1): 11})

    def test_the_lesser_number_ahead_of_earlier_points(self):
        # {1, 2} (6) ahead of {0, 3} (9).
        self.check([(-1, 0), (0, 1), (0, -1), (1, 0)], 15, {(0, 0, 1): 6})

    def test_several_at_one_place(self):
        places = [(1, 1), (0, 0), (0, 0), (2, 2), (2, 2), (0, 2)]
        self.check(places, 63, {(0, 0, 1): 2, (2, 2, 1): 8, (1, 1, 1): 1, (3, 3, 2): 9, (1, 3, 2): 33, (1, 5, 3): 33, (1, 2, 2): 35})
        self.check(places, 62, {(1, 1, 1): 10, (1, 3, 2): 42})
        self.check(places, 52, {(0, 0, 1): 4, (2, 2, 1): 16, (1, 1, 1): 20, (1, 3, 2): 52})
        self.check(places, 6, {(0, 0, 1): 2, (1, 1, 1): 0})
        self.check([(5, 5)] * 4, 15, {(5, 5, 1): 1, (10, 10, 2): 1, (5, 4, 1): 0, (10, 10, 1): 0})
        self.check([(5, 5)] * 4, 12, {(5, 5, 1): 4})

    def test_one_straight_line(self):
        row = [(0, 0), (2, 1), (4, 2), (6, 3)]
        self.check(row, 15, {
            (1, 0, 1): 0, (2, 1, 2): 3, (6, 3, 2): 5, (10, 5, 2): 9, (4, 2, 1): 4, (8, 4, 1): 0, (-2, -1, 1): 0,
        })
        self.check(row, 14, {(2, 1, 2): 0, (6, 3, 2): 6, (10, 5, 2): 10})
        self.check([(6, 3), (0, 0), (4, 2), (2, 1)], 15, {(6, 3, 2): 3, (4, 2, 1): 3, (2, 1, 1): 3})
        self.check([(6, 3), (0, 0), (4, 2), (2, 1)], 14, {(6, 3, 2): 6, (2, 1, 1): 6, (10, 5, 2): 0})

    def test_the_last_of_24(self):
        places = [(k, 0) for k in range(21)] + [(0, -9), (40, -9), (50, 60)]
        self.check(places, 2 ** 24 - 1, {
            (50, 60, 1): 2 ** 23, (90, 51, 2): 2 ** 23 + 2 ** 22, (25, 0, 1): 2 ** 22 + 2 ** 23 + 1,
        })

    def test_places_whose_d_is_above_1(self):
        triangle = [(0, 0), (1, 0), (0, 1)]
        self.check(triangle, 7, {
            (1, 1, 3): 7, (1, 0, 3): 3, (0, 1, FAR): 5, (1, 1, FAR): 7, (FAR - 1, 1, FAR): 6, (-1, 1, FAR): 0,
            (FAR, 1, FAR): 0, (FAR, 0, FAR): 2, (0, 0, FAR): 1,
        })
