"""What is handed in and given back, and that nothing is kept or done besides."""

import contextlib
import io
import sys
import unittest

from hullpoints.heap import answers

CALLS = [
    3, 0, 0, 1,
    0, 8, 0, 0, 4, 0, 4, 4, 0, 4,
    1, 15, 2, 2, 1,
    1, 16, 2, 2, 1,
    2, 15, 3, 1, 1,
    2, 15, 5, 5, 1,
    2, 15, 3, 1, 0,
    3, 4, 4, 2,
    0, 0,
    3, 9, 9, 1,
    4,
    5, 2,
    5, 3,
    5, 5,
    6, 2, 5, 10,
    6, 3, 15, 3, 12,
    6, 0,
    7, 5, 10, 1, 0, 2,
    7, 5, 2, 1, 0, 2,
    7, 5, 10, 0, 0, 2,
    4,
]
GIVEN = [1, -4, 1, 4, 1, 1, 1, -1, 2, 1, 7, 1, 0, 1, -1, 1, 2, 1, -1, 1, 0,
         1, 2, 5, 1, 0, 1, 0, 1, 1, 0, 1, -1, 1, 1, 4, 0, 0, 1, 2, 1, -1, 1, 1, 1, 0, 1, -1, 1, 2]


class Unchangeable(list):
    def refuse(self, *arguments, **named):
        raise AssertionError("what is handed in was changed")

    append = clear = extend = insert = pop = remove = reverse = sort = refuse
    __setitem__ = __delitem__ = __iadd__ = __imul__ = refuse


class Interface(unittest.TestCase):
    def test_counts_and_numbers_in_order(self):
        self.assertEqual(answers(list(CALLS)), GIVEN)

    def test_one_call(self):
        self.assertEqual(answers([0, 2, 5, 5]), [1, 1])
        self.assertEqual(answers([0, 0]), [1, -1])
        self.assertEqual(answers([1, 1, 0, 0, 1]), [1, -4])
        self.assertEqual(answers([4]), [1, -4])
        self.assertEqual(answers([5, 1]), [1, -4])
        self.assertEqual(answers([6, 0]), [1, -4])
        self.assertEqual(answers([6, 2, 1, 1]), [1, -4])
        self.assertEqual(answers([7, 1, 1, 1, 0, 0]), [1, -4])

    def test_30_calls(self):
        calls = [0, 4, 0, 0, 2, 2] + [2, 3, 1, 1, 1] * 29
        self.assertEqual(answers(calls), [1, 2] + [2, 1, 3] * 29)

    def test_30_calls_of_points(self):
        row = [0, 60] + [1] * 60
        taken = [0, 48] + [1] * 48
        self.assertEqual(answers(row * 29 + taken), [1, -1] * 29 + [1, 24])

    def test_30_great_calls(self):
        places = [number for k in range(24) for number in (417 * k, 17 * k * k)]
        calls = [0, 48] + places + [2, 2 ** 24 - 1, 2 ** 40, 1, 2 ** 40] * 29
        self.assertEqual(answers(calls), [1, 24] + [1, 0] * 29)

    def test_29_calls_of_deepest_parted_and_meet(self):
        ring = [0, 100, 78, 62, 97, -22, 43, -90, -43, -90, -97, -22, -78, 62]
        self.assertEqual(answers([0, 14] + ring + [4] * 29), [1, 7] + [1, 3] * 29)
        self.assertEqual(answers([0, 12] + ring[:12] + [5, 4] * 29), [1, 6] + [1, 0] * 29)
        meets = [6, 6, 255, 127, 191, 223, 239, 247]
        self.assertEqual(answers([0, 16] + ring + [0, 0] + meets * 29), [1, 8] + [1, 1] * 29)

    def test_handed_in_stays_the_same(self):
        calls = list(CALLS)
        answers(calls)
        self.assertEqual(calls, CALLS)
        self.assertEqual(answers(Unchangeable(CALLS)), GIVEN)

    def test_asked_twice(self):
        calls = list(CALLS)
        first = answers(calls)
        first.append("changed by the asker")
        self.assertEqual(answers(calls), GIVEN)

    def test_nothing_kept_from_one_list_to_the_next(self):
        answers([0, 2, 0, 0])
        self.assertEqual(answers([3, 0, 0, 1]), [1, -4])
        self.assertEqual(answers([4, 5, 1, 6, 1, 1, 7, 1, 1, 1, 0, 0]), [1, -4] * 4)

    def test_lists_of_whole_numbers(self):
        given = answers(list(CALLS))
        self.assertIs(type(given), list)
        self.assertEqual({type(number) for number in given}, {int})

    def test_prints_and_imports_nothing(self):
        loaded = set(sys.modules)
        with contextlib.redirect_stdout(io.StringIO()) as out, contextlib.redirect_stderr(io.StringIO()) as err:
            answers(list(CALLS))
        self.assertEqual(out.getvalue() + err.getvalue(), "")
        self.assertEqual(set(sys.modules), loaded)
