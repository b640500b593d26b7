"""deepest, parted, meet and halves held against the second reckoning, over drawn points that lie close together."""

import unittest
from itertools import combinations_with_replacement, product

from tests import plain
from tests.asking import ask_of, deepest, halves, meet, parted
from tests.test_reckoning import Numbers

MOST = 1000000000000


def heap(numbers, turn, size):
    """Points close together, on one line, or, now and then, far apart."""
    if turn % 5 == 0:
        return numbers.points_on_a_line(size, 3)
    if turn % 11 == 0:
        return numbers.points(size, 10000)
    return numbers.points(size, 1 + turn % 4)


def line_among(numbers, points):
    """A line through one of the points, at times through two, at times a bit beside."""
    p = points[numbers.draw(0, len(points) - 1)]
    q = points[numbers.draw(0, len(points) - 1)]
    u = q[1] - p[1] if numbers.draw(0, 1) else numbers.draw(-3, 3)
    v = p[0] - q[0] if numbers.draw(0, 1) else numbers.draw(-3, 3)
    if (u, v) == (0, 0):
        v = 1
    return (u, v, u * p[0] + v * p[1] + numbers.draw(-2, 2) // 2)


class Reckoning(unittest.TestCase):
    def check(self, points, asked, told):
        self.assertEqual(list(zip(asked, ask_of(points, asked))), list(zip(asked, told)), points)

    def check_deepest(self, points):
        self.check(points, [deepest()], [plain.deepest(points)])

    def check_parted(self, points):
        parts = range(1, len(points) + 1)
        self.check(points, [parted(r) for r in parts], [plain.parted(points, r) for r in parts])

    def check_meet(self, points, lists):
        self.check(points, [meet(*sets) for sets in lists], [plain.meet(points, *sets) for sets in lists])

    def test_deepest_and_parted_of_every_heap_of_a_small_grid(self):
        grid = list(product(range(3), range(2)))
        for size in (1, 2, 3, 4):
            for points in combinations_with_replacement(grid, size):
                self.check_deepest(list(points))
                self.check_parted(list(points))

    def test_deepest(self):
        numbers = Numbers(11)
        for turn in range(300):
            self.check_deepest(heap(numbers, turn, numbers.draw(4, 7)))

    def test_parted(self):
        numbers = Numbers(12)
        for turn in range(90):
            self.check_parted(heap(numbers, turn, numbers.draw(3, 6)))

    def test_parted_of_six(self):
        numbers = Numbers(13)
        for turn in range(25):
            self.check_parted(heap(numbers, turn, 6))

    def test_meet(self):
        numbers = Numbers(14)
        for turn in range(150):
            size = numbers.draw(1, 8)
            points = heap(numbers, turn, size)
            lists = [[numbers.draw(1, 2 ** size - 1) for _ in range(numbers.draw(1, 6))] for _ in range(4)]
            self.check_meet(points, lists)

    def test_meet_of_great_sets(self):
        """Sets that leave out few points, so that many of them meet."""
        numbers = Numbers(15)
        for turn in range(100):
            size = numbers.draw(5, 8)
            points = heap(numbers, turn, size)
            every = 2 ** size - 1
            lists = []
            for _ in range(3):
                left_out = [(numbers.draw(0, size - 1), numbers.draw(0, size - 1)) for _ in range(numbers.draw(2, 6))]
                lists.append([every & ~(1 << a) & ~(1 << b) for a, b in left_out])
            self.check_meet(points, lists)

    def test_meet_of_stretches_and_triangles(self):
        """Small sets, so that often each two meet but not all three."""
        numbers = Numbers(16)
        for turn in range(100):
            points = heap(numbers, turn, 8)
            lists = []
            for _ in range(4):
                sets = [[numbers.draw(0, 7) for _ in range(numbers.draw(2, 4))] for _ in range(numbers.draw(2, 6))]
                lists.append([sum({1 << number for number in some}) for some in sets])
            self.check_meet(points, lists)

    def test_halves(self):
        numbers = Numbers(17)
        for turn in range(300):
            size = numbers.draw(1, 8) if turn % 10 else 24
            points = heap(numbers, turn, size)
            asked = []
            for _ in range(28):
                line = line_among(numbers, points)
                if numbers.draw(0, 9) == 0:
                    line = (numbers.draw(1, MOST), numbers.draw(-MOST, MOST), numbers.draw(-MOST, MOST))
                asked.append((numbers.draw(1, 2 ** size - 1), numbers.draw(1, 2 ** size - 1)) + line)
            self.check(points, [halves(*one) for one in asked], [plain.halves(points, *one) for one in asked])
