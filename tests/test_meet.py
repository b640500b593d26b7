"""Promise 7."""

import unittest

from tests.asking import ask, meet, points
from tests.test_deepest import HEXAGON, SQUARE, TRIANGLE

EIGHT = HEXAGON + [(0, 0), (40, 40)]


class Meet(unittest.TestCase):
    def check(self, places, sets, apart=()):
        """apart: the three that are due, none if all the sets meet."""
        with self.subTest(places=places, sets=sets):
            told = [0] + list(apart) if apart else [1]
            self.assertEqual(ask(points(*places), meet(*sets)), [[len(places)], told])

    def test_one_set(self):
        for chosen in range(1, 16):
            self.check(SQUARE, [chosen])
        self.check([(7, 7)], [1])

    def test_two_sets(self):
        self.check(SQUARE, [5, 10])
        self.check(SQUARE, [3, 6])
        self.check(SQUARE, [3, 12], (0, 0, 1))
        self.check(SQUARE, [12, 3], (0, 0, 1))
        self.check(SQUARE, [1, 2], (0, 0, 1))
        self.check(SQUARE, [1, 14], (0, 0, 1))
        self.check(SQUARE, [3, 3])

    def test_one_in_the_other(self):
        self.check(TRIANGLE + [(2, 2)], [7, 8])
        self.check(TRIANGLE + [(1, 1), (2, 1), (1, 2)], [56, 7])
        self.check(TRIANGLE + [(4, 4)], [7, 8], (0, 0, 1))

    def test_touching(self):
        places = [(0, 0), (4, 0), (2, 0), (2, 3), (4, 0)]
        self.check(places, [3, 12])
        self.check(places, [3, 8], (0, 0, 1))
        self.check(places, [2, 16])
        self.check(places, [16, 12], (0, 0, 1))
        # A corner on the rim, amid which no stretch crosses another.
        self.check(TRIANGLE + [(3, 3), (6, 6), (6, 5)], [7, 56])
        self.check(TRIANGLE + [(3, 4), (6, 6), (6, 5)], [7, 56], (0, 0, 1))

    def test_one_straight_line(self):
        row = [(0, 0), (2, 1), (4, 2), (6, 3)]
        self.check(row, [5, 10])
        self.check(row, [3, 6])
        self.check(row, [3, 12], (0, 0, 1))
        self.check(row, [9, 6])
        self.check(row, [3, 6, 12], (0, 0, 2))
        self.check(row, [7, 14, 6])
        self.check(row, [9, 1, 8], (0, 1, 2))

    def test_side_by_side_lines(self):
        self.check([(0, 0), (4, 0), (0, 1), (4, 1)], [3, 12], (0, 0, 1))
        self.check([(0, 0), (4, 0), (0, 1), (4, 1)], [9, 6])

    def test_several_at_one_place(self):
        self.check([(3, 3)] * 8, [1, 2, 4, 8, 16, 255])
        self.check([(3, 3)] * 7 + [(3, 4)], [1, 2, 4, 8, 16, 128], (0, 0, 5))
        self.check([(0, 0), (0, 0), (2, 2), (2, 2)], [5, 10, 6])
        self.check([(0, 0), (0, 0), (2, 2), (2, 2)], [5, 10, 3, 12], (0, 2, 3))

    def test_each_two_but_not_all_three(self):
        self.check(TRIANGLE, [3, 5, 6], (0, 1, 2))
        self.check(TRIANGLE, [6, 5, 3], (0, 1, 2))
        off = [(4, 1)] + HEXAGON[1:]
        self.check(off, [9, 18])
        self.check(off, [9, 36])
        self.check(off, [18, 36])
        self.check(off, [9, 18, 36], (0, 1, 2))

    def test_all_three_at_a_place_that_is_no_point(self):
        self.check(HEXAGON, [9, 18, 36])
        self.check(HEXAGON, [9, 18, 36, 63, 21, 42])

    def test_the_first_three(self):
        self.check(TRIANGLE, [7, 3, 5, 6], (1, 2, 3))
        self.check(TRIANGLE, [3, 7, 5, 6], (0, 2, 3))
        self.check(TRIANGLE, [3, 5, 7, 6], (0, 1, 3))
        self.check(TRIANGLE, [3, 5, 6, 7], (0, 1, 2))
        self.check(TRIANGLE, [7, 7, 7, 3, 5, 6], (3, 4, 5))

    def test_one_standing_there_again(self):
        # {0, 0, 3} comes ahead of {0, 1, 2}, {0, 1, 2} ahead of {1, 1, 2}.
        self.check(TRIANGLE + [(9, 9)], [3, 5, 6, 8], (0, 0, 3))
        self.check(TRIANGLE, [7, 1, 2], (0, 1, 2))
        self.check(TRIANGLE, [7, 7, 1, 2], (0, 2, 3))
        self.check(TRIANGLE, [1, 1, 2], (0, 0, 2))
        self.check(TRIANGLE, [1, 2, 1], (0, 0, 1))
        self.check(TRIANGLE, [3, 5, 2, 4], (0, 0, 3))
        self.check(TRIANGLE, [3, 3, 5, 5, 6, 6], (0, 2, 4))

    def test_eight_points_and_six_sets(self):
        self.check(EIGHT, [9, 18, 36, 64, 63, 255])
        self.check(EIGHT, [9, 18, 36, 64, 63, 128], (0, 0, 5))
        self.check(EIGHT, [255, 192, 64, 9, 129, 63], (0, 2, 4))
        self.check(EIGHT, [255, 127, 63, 192, 128, 159], (0, 1, 4))

    def test_sixteen_sets(self):
        self.check(TRIANGLE, [7] * 16)
        self.check(TRIANGLE, [7] * 13 + [3, 5, 6], (13, 14, 15))

    def test_outermost_points(self):
        corners = [(-10000, -10000), (10000, -10000), (10000, 10000), (-10000, 10000)]
        self.check(corners + [(0, 0)], [5, 10, 16])
        self.check(corners + [(0, 1)], [5, 10, 16], (0, 0, 2))
        # A hair off the stretch, and on it.
        self.check([(-10000, -10000), (10000, 9999), (9999, 9999)], [3, 4], (0, 0, 1))
        self.check([(-10000, -10000), (10000, 9998), (0, -1)], [3, 4])


class Refusals(unittest.TestCase):
    def test_no_sets_and_too_many(self):
        for size in (1, 3, 8):
            rows = ask(points(*[(0, 0)] * size), meet(), meet(*[1] * 17), meet(1))
            self.assertEqual(rows, [[size], [-1], [-1], [1]])

    def test_no_set_of_points_that_there_are(self):
        for size in range(1, 9):
            for wrong in (0, 2 ** size, 2 ** size + 1, 2 ** 31, 4294967295):
                for at in range(6):
                    sets = [1] * 6
                    sets[at] = wrong
                    with self.subTest(size=size, sets=sets):
                        rows = ask(points(*[(0, 0)] * size), meet(*sets), meet(wrong), meet(2 ** size - 1))
                        self.assertEqual(rows, [[size], [-1], [-1], [1]])

    def test_too_many_and_no_set(self):
        self.assertEqual(ask(points((0, 0)), meet(*[0] * 17), meet(*[2] * 17)), [[1], [-1], [-1]])

    def test_refused_even_where_others_are_apart(self):
        self.assertEqual(ask(points((0, 0), (1, 1)), meet(1, 2, 4), meet(1, 2, 0)), [[2], [-1], [-1]])

    def test_after_points_anew(self):
        rows = ask(meet(1), points((0, 0), (1, 0)), meet(1, 2), points((0, 0)), meet(1, 2), meet(1),
                   points((10001, 0), (0, 0)), meet(2), points((0, 0), (0, 0)), meet(1, 2))
        self.assertEqual(rows, [[-4], [2], [0, 0, 0, 1], [1], [-1], [1], [-1], [-1], [2], [1]])
