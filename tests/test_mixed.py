"""All calls mixed in one list, with refusals and with points handed in anew, held against the second reckoning."""

import unittest

from tests import plain
from tests.asking import MOST_CALLS, ask, coordinates, deepest, depth, halves, meet, parted, points, three, within
from tests.test_ahead import FAR, WRONG_PLACES
from tests.test_reckoning import Numbers

RECKONED = {1: plain.within, 2: plain.three, 3: plain.depth, 4: plain.deepest, 5: plain.parted, 6: plain.meet,
            7: plain.halves}


def is_set(heap, chosen):
    return 0 < chosen < 2 ** len(heap)


def is_place(x, y, d):
    return max(abs(x), abs(y)) <= FAR and 1 <= d <= FAR


def is_right(heap, call, told):
    if call in (1, 2):
        return is_set(heap, told[0]) and is_place(*told[1:])
    if call == 3:
        return is_place(*told)
    if call == 5:
        return 1 <= told[0] <= len(heap)
    if call == 6:
        return 1 <= len(told) <= 16 and all(is_set(heap, chosen) for chosen in told)
    if call == 7:
        return is_set(heap, told[0]) and is_set(heap, told[1]) and told[2:4] != [0, 0]
    return True


class Model:
    """What the document says of each call, with the second reckoning behind it."""

    def __init__(self):
        self.heap = []

    def answer(self, call):
        if call[0] == 0:
            return self.take(call[2:])
        if not self.heap:
            return [-4]
        told = call[2:] if call[0] == 6 else call[1:]
        if not is_right(self.heap, call[0], told):
            return [-1]
        return RECKONED[call[0]](self.heap, *told)

    def take(self, numbers):
        if not 2 <= len(numbers) <= 48 or max(map(abs, numbers)) > 10000:
            return [-1]
        self.heap = list(zip(numbers[::2], numbers[1::2]))
        return [len(self.heap)]


class Drawn(Numbers):
    def drawn_points(self):
        if self.draw(0, 3) == 0:
            return [coordinates([]), points(*[(1, 1)] * 25), points((0, 0), (10001, 0)), points((0, -10001))][self.draw(0, 3)]
        return points(*self.points(self.draw(1, 8), self.draw(1, 3)))

    def drawn_set(self, size):
        if self.draw(0, 11) == 0:
            return [0, 2 ** size, 4294967295][self.draw(0, 2)]
        return self.draw(1, max(1, 2 ** size - 1))

    def drawn_place(self):
        if self.draw(0, 9) == 0:
            return WRONG_PLACES[self.draw(0, len(WRONG_PLACES) - 1)]
        d = self.draw(1, 3)
        return (self.draw(-2 * d, 2 * d), self.draw(-2 * d, 2 * d), d)

    def drawn_call(self, size):
        """A call that may be asked where there are so many points."""
        call = self.draw(0, 8)
        if call == 1:
            return within(self.drawn_set(size), *self.drawn_place())
        if call == 2:
            return three(self.drawn_set(size), *self.drawn_place())
        if call == 4 and size <= 7:
            return deepest()
        if call == 5 and size <= 6:
            return parted(self.draw(-1, size + 1) if self.draw(0, 3) == 0 else self.draw(1, max(size, 1)))
        if call == 6:
            count = self.draw(1, 6) if self.draw(0, 5) else 17 * self.draw(0, 1)
            return meet(*[self.drawn_set(size) for _ in range(count)])
        if call == 7:
            return halves(self.drawn_set(size), self.drawn_set(size), *[self.draw(-2, 2) for _ in range(3)])
        if call == 8:
            return self.drawn_points()
        return depth(*self.drawn_place())


class Mixed(unittest.TestCase):
    def test_worked_out_by_hand(self):
        rows = ask(
            deepest(), parted(1), meet(1), halves(1, 1, 1, 0, 0), depth(0, 0),
            points((0, 0), (4, 0), (4, 4), (0, 4)),
            deepest(), depth(2, 2), parted(2), meet(5, 10), meet(3, 12), halves(5, 10, 1, 0, 2), three(15, 3, 1),
            points((9, 9), (10001, 9)),
            deepest(), parted(3), parted(5), meet(16), halves(15, 15, 0, 0, 0), within(15, 2, 2),
            points((1, 1), (1, 1)),
            deepest(), depth(2, 2), parted(2), parted(3), meet(1, 2), meet(4), halves(3, 2, 1, 1, 2), three(3, 1, 1),
        )
        self.assertEqual(rows, [
            [-4], [-4], [-4], [-4], [-4],
            [4],
            [2], [2], [1, 0, 1, 0, 1], [1], [0, 0, 0, 1], [1], [1, 7],
            [-1],
            [2], [0], [-1], [-1], [-1], [1],
            [2],
            [2], [0], [1, 0, 1], [-1], [1], [-1], [1], [1, 1],
        ])

    def test_drawn(self):
        numbers = Drawn(21)
        seen = set()
        for _ in range(150):
            model = Model()
            calls = []
            told = []
            for _ in range(numbers.draw(1, MOST_CALLS)):
                calls.append(numbers.drawn_call(len(model.heap)))
                told.append(model.answer(calls[-1]))
                seen.add((calls[-1][0], told[-1][0] if told[-1][0] < 0 else "an answer"))
            self.assertEqual(ask(*calls), told, calls)
        every = {(call, kind) for call in range(8) for kind in (-1, -4, "an answer")}
        # points are never asked in vain for want of points, and deepest has nothing that could be wrong.
        self.assertEqual(every - seen, {(0, -4), (4, -1)})
