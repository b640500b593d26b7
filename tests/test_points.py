"""Promise 1."""

import unittest

from tests.asking import ask, coordinates, depth, points, three, within


class Points(unittest.TestCase):
    def test_how_many(self):
        for size in range(1, 25):
            with self.subTest(size=size):
                self.assertEqual(ask(points(*[(k, k * k) for k in range(size)])), [[size]])

    def test_too_few_or_too_many(self):
        self.assertEqual(ask(coordinates([])), [[-1]])
        for size in range(25, 31):
            with self.subTest(size=size):
                self.assertEqual(ask(points(*[(k, k * k) for k in range(size)])), [[-1]])

    def test_outermost_taken(self):
        rows = ask(points((-10000, 10000), (10000, -10000)), three(3, 0, 0), within(1, -10000, 10000))
        self.assertEqual(rows, [[2], [1, 3], [1]])
        for number in (-10000, 10000):
            self.assertEqual(ask(points((number, 0))), [[1]])
            self.assertEqual(ask(points((0, number))), [[1]])

    def test_beyond_refused_wherever_it_stands(self):
        for wrong in (-10001, 10001, -2147483648, 2147483647):
            for at in range(6):
                numbers = [1, 2, 3, 4, 5, 6]
                numbers[at] = wrong
                with self.subTest(numbers=numbers):
                    self.assertEqual(ask(coordinates(numbers)), [[-1]])

    def test_beyond_refused_in_the_last_of_24(self):
        for wrong in (-10001, 10001):
            self.assertEqual(ask(coordinates([0] * 47 + [wrong])), [[-1]])

    def test_anew(self):
        rows = ask(
            points((0, 0), (2, 0), (0, 2)), within(7, 1, 1), depth(0, 0),
            points((5, 5)), within(1, 5, 5), within(1, 0, 0), within(2, 5, 5), depth(0, 0), depth(5, 5),
            points((1, 1), (3, 1)), three(3, 2, 1), within(4, 1, 1), depth(5, 5),
        )
        self.assertEqual(rows, [[3], [1], [1], [1], [1], [0], [-1], [0], [1], [2], [1, 3], [-1], [0]])

    def test_several_at_one_place(self):
        rows = ask(points((7, -3), (7, -3), (7, -3)), depth(7, -3), depth(7, -2), three(6, 7, -3), three(4, 7, -3))
        self.assertEqual(rows, [[3], [3], [0], [1, 2], [1, 4]])

    def test_24_at_one_place(self):
        rows = ask(points(*[(-1, 1)] * 24), depth(-1, 1), depth(-1, 2), three(2 ** 24 - 1, -1, 1))
        self.assertEqual(rows, [[24], [24], [0], [1, 1]])

    def test_x_stands_ahead_of_y(self):
        rows = ask(points((1, 2), (3, 4)), within(1, 1, 2), within(1, 2, 1), within(2, 3, 4), within(2, 2, 3))
        self.assertEqual(rows, [[2], [1], [0], [1], [0]])
