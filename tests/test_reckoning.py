"""The answers held against the second reckoning, over many small heaps and some great ones."""

import unittest
from itertools import product

from tests import plain
from tests.asking import ask_of, depth, three, within

FAR = 2 ** 40


class Numbers:
    """A row of numbers that looks drawn by chance and is the same each time."""

    def __init__(self, seed):
        self.state = seed

    def draw(self, least, most):
        self.state = (self.state * 6364136223846793005 + 1442695040888963407) % 2 ** 64
        return least + (self.state >> 33) % (most - least + 1)

    def points(self, size, reach):
        return [(self.draw(-reach, reach), self.draw(-reach, reach)) for _ in range(size)]

    def points_on_a_line(self, size, reach):
        step = (self.draw(-3, 3), self.draw(-3, 3))
        start = self.points(1, reach)[0]
        shifts = [self.draw(-4, 4) for _ in range(size)]
        return [(start[0] + k * step[0], start[1] + k * step[1]) for k in shifts]


def weighted(numbers, points, most):
    """A place that weights of two or three of the points put, and at times its neighbour."""
    some = [points[numbers.draw(0, len(points) - 1)] for _ in range(numbers.draw(2, 3))]
    weights = [numbers.draw(0, most) for _ in some]
    weights[0] += 1
    x = sum(w * p[0] for w, p in zip(weights, some)) + (numbers.draw(-2, 2) // 2)
    y = sum(w * p[1] for w, p in zip(weights, some)) + (numbers.draw(-2, 2) // 2)
    return (x, y, sum(weights))


class Reckoning(unittest.TestCase):
    def check(self, points, questions):
        """questions: a set and a place for each."""
        asked = []
        told = []
        for chosen, x, y, d in questions:
            asked.extend([within(chosen, x, y, d), three(chosen, x, y, d), depth(x, y, d)])
            told.extend([plain.within(points, chosen, x, y, d), plain.three(points, chosen, x, y, d),
                         plain.depth(points, x, y, d)])
        self.assertEqual(list(zip(asked, ask_of(points, asked))), list(zip(asked, told)), points)

    def test_every_heap_of_at_most_three_points_on_a_small_grid(self):
        grid = list(product(range(3), range(2)))
        places = [(x, y, 2) for x in range(-1, 6) for y in range(-1, 4)]
        for size in (1, 2, 3):
            for points in product(grid, repeat=size):
                self.check(list(points), [(2 ** size - 1,) + place for place in places])

    def test_every_set_and_place_of_small_heaps(self):
        numbers = Numbers(5)
        for turn in range(24):
            points = numbers.points(4, 1) if turn % 3 else numbers.points_on_a_line(4, 1)
            places = [(x, y, 2) for x in range(-3, 4) for y in range(-3, 4)]
            self.check(points, [(chosen,) + place for chosen in range(1, 16) for place in places])

    def test_small_heaps(self):
        numbers = Numbers(1)
        for turn in range(400):
            size = numbers.draw(1, 7)
            points = numbers.points(size, 3) if turn % 4 else numbers.points_on_a_line(size, 3)
            questions = []
            for _ in range(6):
                chosen = numbers.draw(1, 2 ** size - 1)
                questions.append((chosen, numbers.draw(-4, 4), numbers.draw(-4, 4), 1))
                questions.append((chosen, numbers.draw(-9, 9), numbers.draw(-9, 9), numbers.draw(1, 4)))
                questions.append((chosen,) + weighted(numbers, points, 3))
            self.check(points, questions)

    def test_wide_heaps(self):
        numbers = Numbers(2)
        for _ in range(120):
            size = numbers.draw(1, 7)
            points = numbers.points(size, 10000)
            questions = []
            for _ in range(4):
                chosen = numbers.draw(1, 2 ** size - 1)
                questions.append((chosen,) + weighted(numbers, points, 2 ** 24))
                questions.append((chosen, numbers.draw(-FAR, FAR), numbers.draw(-FAR, FAR), numbers.draw(1, 2 ** 30)))
                questions.append((2 ** size - 1, numbers.draw(-FAR, FAR), numbers.draw(-FAR, FAR), FAR))
            self.check(points, questions)

    def test_heaps_of_24(self):
        numbers = Numbers(3)
        for reach in (2, 4, 9, 10000):
            points = numbers.points(24, reach)
            questions = [(2 ** 24 - 1,) + weighted(numbers, points, 5) for _ in range(3)]
            questions.extend([(numbers.draw(1, 2 ** 24 - 1),) + weighted(numbers, points, 5) for _ in range(3)])
            self.check(points, questions)
