"""Promise 8."""

import unittest

from tests import plain
from tests.asking import ask, ask_of, halves, points
from tests.test_deepest import SQUARE

MOST = 1000000000000


class Halves(unittest.TestCase):
    def check(self, places, chosen, told):
        """told: whether each line (u, v, c) halves the set."""
        self.check_two(places, chosen, chosen, told)
        # Beside a set that the line halves, the other alone tells the answer.
        for line in told:
            halved = [other for other in range(1, 2 ** len(places)) if plain.halves(places, other, other, *line) == [1]]
            for other in halved[:1]:
                self.check_two(places, chosen, other, {line: told[line]})
                self.check_two(places, other, chosen, {line: told[line]})

    def check_two(self, places, s, t, told):
        rows = ask_of(places, [halves(s, t, *line) for line in told])
        for line, row in zip(told, rows):
            with self.subTest(places=places, s=s, t=t, line=line):
                self.assertEqual(row, [told[line]])

    def test_an_even_count(self):
        self.check(SQUARE, 15, {
            (1, 0, 2): 1, (0, 1, 2): 1, (1, 0, 1): 1, (0, 1, 3): 1, (2, 0, 3): 1, (1, -1, 0): 1, (1, 1, 4): 1,
            (1, 0, 0): 1, (1, 0, 4): 1, (0, 1, 0): 1, (0, 1, 4): 1,
            (1, 0, -1): 0, (1, 0, 5): 0, (0, 1, -1): 0, (0, 1, 5): 0, (1, 1, 3): 0, (1, 1, 0): 0, (1, 1, 8): 0,
            (1, -1, 1): 0, (1, -1, -1): 0,
        })

    def test_an_odd_count(self):
        self.check(SQUARE, 7, {
            (1, 0, 4): 1, (0, 1, 0): 1, (1, -1, 0): 1, (1, 1, 4): 1,
            (1, 0, 2): 0, (0, 1, 2): 0, (1, 0, 0): 0, (0, 1, 4): 0, (1, 1, 3): 0, (1, 1, 5): 0, (1, -1, 1): 0,
        })

    def test_the_other_way_round(self):
        told = {(1, 0, 2): 1, (1, 0, 0): 1, (1, 0, -1): 0, (1, 1, 3): 0, (3, 1, 8): 1, (3, 1, 2): 0}
        self.check(SQUARE, 15, told)
        self.check(SQUARE, 15, {(-u, -v, -c): told[(u, v, c)] for u, v, c in told})
        self.check(SQUARE, 15, {(9 * u, 9 * v, 9 * c): told[(u, v, c)] for u, v, c in told})

    def test_one_point(self):
        self.check(SQUARE, 2, {(1, 0, 4): 1, (0, 1, 0): 1, (1, 1, 4): 1, (1, 0, 3): 0, (1, 0, 5): 0, (0, 1, 1): 0})

    def test_two_points(self):
        self.check(SQUARE, 3, {(1, 0, 2): 1, (1, 0, 0): 1, (1, 0, 4): 1, (0, 1, 0): 1, (0, 1, 1): 0, (1, 0, 5): 0})

    def test_points_on_the_line(self):
        row = [(0, 0), (2, 1), (4, 2), (6, 3), (1, 9)]
        self.check(row, 15, {(1, -2, 0): 1, (1, -2, 1): 0, (1, -2, -1): 0, (1, 0, 2): 1, (1, 0, 0): 0})
        self.check(row, 31, {(1, -2, 0): 1, (1, 0, 2): 1, (1, 0, 1): 0, (1, 0, 4): 0, (0, 1, 2): 1, (0, 1, 1): 0})
        # Two on one side of the line, one on the other, one on it: two are no more than half of four.
        self.check([(0, 0), (1, 0), (2, 0), (3, 0)], 15, {(1, 0, 1): 1, (1, 0, 2): 1, (1, 0, 0): 0, (1, 0, 3): 0})

    def test_several_at_one_place(self):
        self.check([(3, 3)] * 3, 7, {(1, 0, 3): 1, (1, -1, 0): 1, (1, 0, 2): 0, (1, 0, 4): 0})
        self.check([(3, 3)] * 2 + [(5, 3)], 7, {(1, 0, 3): 1, (1, 0, 4): 0, (1, 0, 5): 0, (0, 1, 3): 1})
        self.check([(3, 3)] * 2 + [(5, 3)] * 2, 15, {(1, 0, 3): 1, (1, 0, 4): 1, (1, 0, 5): 1, (1, 0, 6): 0})

    def test_both_sets(self):
        self.check_two(SQUARE, 5, 10, {(1, 0, 2): 1, (1, 1, 4): 1, (1, -1, 0): 1, (1, 1, 3): 0})
        self.check_two(SQUARE, 3, 12, {(1, 0, 2): 1, (0, 1, 0): 0, (0, 1, 4): 0, (1, -1, 0): 1})
        self.check_two(SQUARE, 3, 4, {(1, 0, 2): 0, (1, 0, 4): 1, (1, -1, 0): 1, (0, 1, 0): 0})
        self.check_two(SQUARE, 4, 3, {(1, 0, 2): 0, (1, 0, 4): 1, (1, -1, 0): 1, (0, 1, 0): 0})

    def test_points_that_are_not_in_the_set_count_for_nothing(self):
        self.check(SQUARE + [(9, 9)] * 5, 15, {(1, 0, 2): 1, (1, 0, 5): 0})

    def test_24_points(self):
        places = [(k, 5 * k - 60) for k in range(24)]
        every = 2 ** 24 - 1
        self.check_two(places, every, every, {(1, 0, 11): 1, (1, 0, 12): 1, (2, 0, 23): 1, (1, 0, 10): 0, (1, 0, 13): 0})
        self.check_two(places, every, every // 2, {(1, 0, 11): 1, (1, 0, 12): 0, (2, 0, 23): 0})
        self.check_two(places, every, 2 ** 23, {(1, 0, 11): 0, (1, 0, 23): 0})
        self.check_two(places, 2 ** 23, 2 ** 23, {(1, 0, 23): 1, (0, 1, 55): 1, (0, 1, 54): 0})

    def test_numbers_at_the_ends_of_their_ranges(self):
        far = [(10000, 10000), (-10000, -10000), (1, 0), (0, 1), (-1, 0)]
        self.check_two(far, 3, 3, {
            (MOST, MOST, 0): 1, (-MOST, -MOST, 0): 1, (MOST, MOST, MOST): 1, (MOST, -MOST, 0): 1,
            (MOST, -MOST, 1): 0, (MOST, 1 - MOST, 10000): 1, (MOST, 1 - MOST, 10001): 0, (MOST, 1 - MOST, -10000): 1,
            (1, 0, MOST): 0, (0, 1, -MOST): 0, (1, 1, MOST): 0, (1, 1, -MOST): 0,
        })
        self.check_two(far, 4, 4, {
            (MOST, MOST, MOST): 1, (MOST, -MOST, MOST): 1, (MOST, 0, MOST): 1, (MOST - 1, 0, MOST): 0,
            (MOST, 0, MOST - 1): 0, (-MOST, 0, -MOST): 1, (-MOST, MOST, MOST): 0,
        })
        self.check_two(far, 4, 8, {(MOST, MOST, MOST): 1, (MOST, MOST - 1, MOST): 0, (MOST - 1, MOST, MOST): 0})
        self.check_two(far, 16, 8, {(-MOST, MOST, MOST): 1, (MOST, -MOST, -MOST): 1, (MOST, MOST, -MOST): 0})
        self.check_two(far, 1, 1, {(MOST // 10000, 0, MOST): 1, (0, MOST // 10000, MOST): 1, (0, MOST // 10000, MOST - 1): 0})
        self.check_two(far, 2, 2, {(MOST // 10000, 0, -MOST): 1, (MOST // 10000, 0, MOST): 0})


class Refusals(unittest.TestCase):
    def test_u_and_v_both_0(self):
        for c in (0, 1, -1, MOST, -MOST):
            rows = ask(points((0, 0), (1, 1)), halves(3, 3, 0, 0, c), halves(1, 2, 0, 0, c), halves(3, 3, 1, 1, 1))
            self.assertEqual(rows, [[2], [-1], [-1], [1]])

    def test_only_one_of_them_0(self):
        self.assertEqual(ask(points((0, 0)), halves(1, 1, 0, 1, 0), halves(1, 1, 1, 0, 0), halves(1, 1, 0, -1, 1)),
                         [[1], [1], [1], [0]])

    def test_no_set_of_points_that_there_are(self):
        for size in (1, 2, 5, 23, 24):
            good = 2 ** size - 1
            for wrong in (0, 2 ** size, 2 ** size + 1, 2 ** 31, 4294967295):
                with self.subTest(size=size, wrong=wrong):
                    rows = ask(points(*[(0, 0)] * size), halves(wrong, good, 1, 0, 0), halves(good, wrong, 1, 0, 0),
                               halves(wrong, wrong, 1, 0, 0), halves(wrong, good, 1, 0, 9), halves(good, good, 1, 0, 0))
                    self.assertEqual(rows, [[size], [-1], [-1], [-1], [-1], [1]])

    def test_all_wrong(self):
        self.assertEqual(ask(points((0, 0)), halves(0, 0, 0, 0, 0), halves(2, 1, 0, 0, 5)), [[1], [-1], [-1]])

    def test_after_points_anew(self):
        rows = ask(halves(1, 1, 1, 0, 0), points((0, 0), (2, 0)), halves(3, 3, 1, 0, 1), points((0, 0)),
                   halves(3, 3, 1, 0, 1), halves(1, 1, 1, 0, 1), points((1, 10001)), halves(1, 1, 1, 0, 0),
                   points((1, 0)), halves(1, 1, 1, 0, 1))
        self.assertEqual(rows, [[-4], [2], [1], [1], [-1], [0], [-1], [1], [1], [1]])
