"""-4 ahead of all else where there are no points, and refusals that change nothing."""

import unittest

from tests.asking import ask, coordinates, deepest, depth, halves, meet, parted, points, three, within

LONG_LEAST = -9223372036854775808
LONG_MOST = 9223372036854775807
FAR = 2 ** 40

WRONG_PLACES = (
    (FAR + 1, 0, 1), (-FAR - 1, 0, 1), (0, FAR + 1, 1), (0, -FAR - 1, 1),
    (0, 0, 0), (0, 0, -1), (0, 0, FAR + 1),
    (LONG_MOST, LONG_MOST, LONG_MOST), (LONG_LEAST, LONG_LEAST, LONG_LEAST),
)

# Wrong where the heap has two points, and where it has none.
WRONG_CALLS = (
    parted(0), parted(-1), parted(3), parted(-2147483648), parted(2147483647),
    meet(), meet(0), meet(4), meet(1, 4294967295), meet(3, 0, 1), meet(*[1] * 17), meet(*[0] * 17),
    halves(0, 1, 1, 0, 0), halves(1, 0, 1, 0, 0), halves(4, 1, 1, 0, 0), halves(1, 4294967295, 1, 0, 0),
    halves(1, 1, 0, 0, 0), halves(1, 1, 0, 0, 1000000000000), halves(0, 4294967295, 0, 0, -1000000000000),
)


class NoPoints(unittest.TestCase):
    def test_right_calls(self):
        self.assertEqual(ask(within(1, 0, 0)), [[-4]])
        self.assertEqual(ask(three(1, 0, 0)), [[-4]])
        self.assertEqual(ask(depth(0, 0)), [[-4]])
        self.assertEqual(ask(deepest()), [[-4]])
        self.assertEqual(ask(parted(1)), [[-4]])
        self.assertEqual(ask(meet(1)), [[-4]])
        self.assertEqual(ask(meet(1, 2, 3)), [[-4]])
        self.assertEqual(ask(halves(1, 1, 1, 0, 0)), [[-4]])

    def test_wrong_calls(self):
        for wrong in WRONG_CALLS:
            with self.subTest(wrong=wrong):
                self.assertEqual(ask(wrong), [[-4]])
                self.assertEqual(ask(coordinates([]), wrong, points((0, 0), (0, 10001)), wrong), [[-1], [-4], [-1], [-4]])

    def test_wrong_places(self):
        for place in WRONG_PLACES:
            with self.subTest(place=place):
                rows = ask(within(1, *place), three(1, *place), depth(*place))
                self.assertEqual(rows, [[-4], [-4], [-4]])

    def test_wrong_sets(self):
        for chosen in (0, 2, 4294967295):
            with self.subTest(chosen=chosen):
                self.assertEqual(ask(within(chosen, 0, 0), three(chosen, 0, 0)), [[-4], [-4]])

    def test_behind_refused_points(self):
        rows = ask(coordinates([]), depth(0, 0), points((10001, 0)), within(1, 0, 0), three(0, 0, 0, 0))
        self.assertEqual(rows, [[-1], [-4], [-1], [-4], [-4]])

    def test_deepest_behind_refused_points(self):
        self.assertEqual(ask(points(*[(0, 0)] * 25), deepest(), deepest()), [[-1], [-4], [-4]])

    def test_until_there_are_points(self):
        rows = ask(depth(0, 0), points((0, 0)), depth(0, 0), within(1, 0, 0), three(1, 0, 0))
        self.assertEqual(rows, [[-4], [1], [1], [1], [1, 1]])


class NothingChanges(unittest.TestCase):
    def test_refused_points_leave_those_from_before(self):
        asked = (within(2, 6, 0), three(3, 4, 0), depth(6, 0), within(4, 0, 0),
                 deepest(), parted(2), parted(1), meet(1, 2), halves(3, 3, 1, 0, 4))
        told = [[1], [1, 3], [1], [-1], [1], [0], [1, 0, 0], [0, 0, 0, 1], [1]]
        refused = (
            coordinates([]),
            points(*[(5, 5)] * 25),
            points(*[(5, 5)] * 30),
            points((5, 5), (5, 5), (5, 10001)),
            points((-10001, 5)),
        )
        for wrong in refused:
            with self.subTest(wrong=wrong):
                rows = ask(points((2, 0), (6, 0)), *asked, wrong, *asked)
                self.assertEqual(rows, [[2]] + told + [[-1]] + told)

    def test_other_refusals_leave_the_points(self):
        for place in WRONG_PLACES:
            with self.subTest(place=place):
                rows = ask(points((2, 0), (6, 0)), within(3, *place), three(3, *place), depth(*place),
                           three(3, 4, 0), depth(4, 0))
                self.assertEqual(rows, [[2], [-1], [-1], [-1], [1, 3], [1]])

    def test_refusals_of_the_other_calls_leave_the_points(self):
        asked = (deepest(), parted(2), meet(3, 2), meet(1, 2), halves(3, 3, 1, 0, 4), three(3, 4, 0), depth(4, 0))
        told = [[1], [0], [1], [0, 0, 0, 1], [1], [1, 3], [1]]
        for wrong in WRONG_CALLS:
            with self.subTest(wrong=wrong):
                rows = ask(points((2, 0), (6, 0)), *asked, wrong, *asked)
                self.assertEqual(rows, [[2]] + told + [[-1]] + told)
