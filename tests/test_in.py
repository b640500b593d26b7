"""Promise 2."""

import unittest

from tests.asking import ask, ask_of, points, three, within
from tests.test_ahead import FAR, WRONG_PLACES

SQUARE = [(0, 0), (4, 0), (4, 4), (0, 4)]
ROW = [(0, 0), (2, 1), (4, 2), (6, 3)]
HEAPED = [(3, 3), (3, 3), (3, 3)]


class In(unittest.TestCase):
    def check(self, places, chosen, told):
        """told: the answer that is due for each place (x, y, d)."""
        rows = ask_of(places, [within(chosen, *place) for place in told])
        for place, row in zip(told, rows):
            with self.subTest(chosen=chosen, place=place):
                self.assertEqual(row, [told[place]])

    def test_square(self):
        self.check(SQUARE, 15, {
            (2, 2, 1): 1, (1, 3, 1): 1, (3, 1, 1): 1,
            (0, 0, 1): 1, (4, 0, 1): 1, (4, 4, 1): 1, (0, 4, 1): 1,
            (2, 0, 1): 1, (4, 1, 1): 1, (3, 4, 1): 1, (0, 2, 1): 1,
            (5, 2, 1): 0, (-1, 2, 1): 0, (2, 5, 1): 0, (2, -1, 1): 0, (5, 5, 1): 0, (-1, -1, 1): 0,
            (8, 0, 1): 0, (-4, 4, 1): 0,
        })

    def test_only_the_points_of_the_set(self):
        self.check(SQUARE, 7, {(3, 1, 1): 1, (2, 2, 1): 1, (1, 3, 1): 0, (0, 4, 1): 0, (3, 0, 1): 1})
        self.check(SQUARE, 11, {(1, 1, 1): 1, (2, 2, 1): 1, (3, 3, 1): 0, (4, 4, 1): 0})

    def test_sets_of_one(self):
        self.check(SQUARE, 4, {(4, 4, 1): 1, (8, 8, 2): 1, (4, 0, 1): 0, (2, 2, 1): 0, (0, 0, 1): 0})

    def test_sets_of_two(self):
        self.check(SQUARE, 5, {
            (0, 0, 1): 1, (4, 4, 1): 1, (2, 2, 1): 1, (1, 1, 3): 1,
            (5, 5, 1): 0, (-1, -1, 1): 0, (2, 1, 1): 0, (3, 4, 1): 0,
        })

    def test_one_straight_line(self):
        self.check(ROW, 15, {
            (0, 0, 1): 1, (6, 3, 1): 1, (3, 3, 2): 0, (3, 3, 1): 0, (6, 3, 2): 1, (2, 1, 3): 1,
            (8, 4, 1): 0, (-2, -1, 1): 0, (-2, -1, 99): 0, (601, 300, 100): 0, (1, 0, 1): 0, (0, 1, 1): 0,
        })
        self.check(ROW, 6, {(0, 0, 1): 0, (2, 1, 1): 1, (3, 3, 2): 0, (6, 3, 2): 1, (4, 2, 1): 1, (6, 3, 1): 0})

    def test_upright_and_level_lines(self):
        self.check([(2, 0), (2, 9), (2, 5)], 7, {(2, 7, 1): 1, (2, 10, 1): 0, (2, -1, 1): 0, (3, 5, 1): 0})
        self.check([(0, 2), (9, 2), (5, 2)], 7, {(7, 2, 1): 1, (10, 2, 1): 0, (-1, 2, 1): 0, (5, 3, 1): 0})

    def test_all_at_one_place(self):
        for chosen in range(1, 8):
            self.check(HEAPED, chosen, {
                (3, 3, 1): 1, (6, 6, 2): 1, (0, 0, 1): 0, (6, 6, 1): 0, (3, 4, 1): 0, (4, 3, 1): 0, (-3, -3, 1): 0,
            })

    def test_places_whose_d_is_above_1(self):
        triangle = [(0, 0), (1, 0), (0, 1)]
        self.check(triangle, 7, {
            (1, 1, 3): 1, (1, 1, 2): 1, (2, 1, 3): 1, (51, 50, 100): 0, (50, 50, 101): 1, (51, 51, 102): 1,
            (52, 51, 102): 0, (0, 1, 2): 1, (-1, 50, 100): 0, (0, 101, 100): 0,
            (1, 1, FAR): 1, (-1, 1, FAR): 0, (FAR, 0, FAR): 1, (FAR // 2, FAR // 2, FAR): 1,
            (FAR // 2 + 1, FAR // 2, FAR): 0, (FAR // 2 - 1, FAR // 2, FAR): 1,
        })

    def test_a_hair_off_the_rim_of_a_great_triangle(self):
        great = [(-10000, -10000), (10000, -9999), (9999, 10000)]
        self.check(great, 7, {
            (-10000 * 12345, -10000 * 12345, 12345): 1,
            (-10000 * 12345 - 1, -10000 * 12345, 12345): 0,
            (-10000 * 12345, -10000 * 12345 - 1, 12345): 0,
            (0, -19999, 2): 1, (0, -19999 * 10 ** 6 - 1, 2 * 10 ** 6): 0, (0, -19999 * 10 ** 6 + 1, 2 * 10 ** 6): 1,
        })

    def test_outermost_places(self):
        rows = ask_of(SQUARE, [within(15, x, y, d) for x in (-FAR, FAR) for y in (-FAR, FAR) for d in (1, FAR)])
        # Where d is 2^40, too, the place is (1, 1) with signs.
        self.assertEqual(rows, [[0], [0], [0], [0], [0], [0], [0], [1]])
        self.assertEqual(ask_of(SQUARE, [within(15, 0, 0, FAR), within(15, 0, 0, 1)]), [[1], [1]])


class Refusals(unittest.TestCase):
    """Those of three, too, which are the same."""

    def check(self, size, chosen, place):
        with self.subTest(size=size, chosen=chosen, place=place):
            rows = ask(points(*[(0, 0)] * size), within(chosen, *place), three(chosen, *place))
            self.assertEqual(rows, [[size], [-1], [-1]])

    def test_sets(self):
        for size in (1, 2, 5, 23, 24):
            for chosen in (0, 2 ** size, 2 ** size + 1, 2 ** (size + 1) - 1, 2 ** 31, 4294967295, 4294967294):
                self.check(size, chosen, (0, 0, 1))

    def test_greatest_sets_taken(self):
        for size in (1, 2, 5, 23, 24):
            rows = ask(points(*[(0, 0)] * size), within(2 ** size - 1, 0, 0), within(2 ** (size - 1), 0, 0))
            self.assertEqual(rows, [[size], [1], [1]])

    def test_places(self):
        for place in WRONG_PLACES:
            self.check(1, 1, place)

    def test_outermost_longs_one_by_one(self):
        for number in (-9223372036854775808, 9223372036854775807):
            self.check(2, 3, (number, 0, 1))
            self.check(2, 3, (0, number, 1))
            self.check(2, 3, (0, 0, number))

    def test_set_and_place_both_wrong(self):
        self.check(3, 0, (0, 0, 0))
        self.check(3, 8, (FAR + 1, 0, 1))
