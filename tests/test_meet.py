import itertools
import unittest

from tests.by_words import meet_by_definition
from tests.lines import LEAST, MOST, OUTSIDE, all_rows, ask, in_order, last, meet, move, over, row, told_sorted


def met(first, second):
    """What is answered, and the row in which they meet."""
    calls = [row(1, first), row(0, second), meet(1, 0, 3)]
    return last(*calls), in_order(calls, 3)


class Meet(unittest.TestCase):
    def test_neither_is_over_the_other(self):
        self.assertEqual(met([4, 1, 1], [3, 3, 0]), ([0], [3, 2, 1]))
        self.assertEqual(met([3, 3, 0], [4, 1, 1]), ([0], [3, 2, 1]))
        self.assertEqual(met([9, 5, 5, 5, 0], [10, 4, 4, 4, 2]), ([0], [9, 5, 4, 4, 2]))

    def test_one_is_over_the_other(self):
        self.assertEqual(met([4, 0], [3, 1]), ([0], [3, 1]))
        self.assertEqual(met([3, 1], [4, 0]), ([0], [3, 1]))
        self.assertEqual(met([9, 0, 0], [3, 3, 3]), ([0], [3, 3, 3]))

    def test_unsorted_rows(self):
        self.assertEqual(met([1, 1, 4], [0, 3, 3]), ([0], [3, 2, 1]))
        self.assertEqual(met([0, 4], [1, 3]), ([0], [3, 1]))

    def test_sorted_alike(self):
        self.assertEqual(met([1, 3, 2], [2, 1, 3]), ([0], [3, 2, 1]))

    def test_a_row_and_itself(self):
        for i, k in itertools.product(range(4), repeat=2):
            calls = [row(i, [2, 9, 0, 4]), meet(i, i, k)]
            self.assertEqual(last(*calls), [0])
            self.assertEqual(in_order(calls, k), [9, 4, 2, 0])
            self.assertEqual(in_order(calls, i), [9, 4, 2, 0] if i == k else [2, 9, 0, 4])

    def test_rows_of_one_number(self):
        self.assertEqual(met([5], [5]), ([0], [5]))
        self.assertEqual(met([1000], [1000]), ([0], [1000]))
        self.assertEqual(ask(meet(0, 1, 2), told_sorted(2)), [[0], [1, 0]])

    def test_rows_of_twelve_numbers(self):
        self.assertEqual(met([0] * 6 + [1000] * 6, [500] * 12), ([0], [500] * 12))
        self.assertEqual(met([1000] * 12, [1000] * 12), ([0], [1000] * 12))
        first = [30, 9, 9, 9, 9, 9, 9, 9, 9, 9, 9, 0]
        second = [20, 20, 20, 10, 10, 10, 5, 5, 5, 5, 5, 5]
        self.assertEqual(met(first, second), ([0], [20, 19, 9, 9, 9, 9, 9, 9, 9, 8, 5, 5]))
        self.assertEqual(met(first[::-1], second[::-1]), ([0], [20, 19, 9, 9, 9, 9, 9, 9, 9, 8, 5, 5]))

    def test_k_is_another_row(self):
        rows = [[1, 4, 1], [0, 3, 3], [5, 6], [8, 7, 9, 1]]
        calls = [row(i, numbers) for i, numbers in enumerate(rows)]
        self.assertEqual(all_rows(calls + [meet(0, 1, 2)]), [[1, 4, 1], [0, 3, 3], [3, 2, 1], [8, 7, 9, 1]])
        self.assertEqual(all_rows(calls + [meet(1, 0, 3)]), [[1, 4, 1], [0, 3, 3], [5, 6], [3, 2, 1]])

    def test_k_is_i(self):
        rows = [[1, 4, 1], [0, 3, 3], [5, 6], [8, 7, 9, 1]]
        calls = [row(i, numbers) for i, numbers in enumerate(rows)]
        self.assertEqual(last(*calls, meet(0, 1, 0)), [0])
        self.assertEqual(all_rows(calls + [meet(0, 1, 0)]), [[3, 2, 1], [0, 3, 3], [5, 6], [8, 7, 9, 1]])

    def test_k_is_j(self):
        rows = [[1, 4, 1], [0, 3, 3], [5, 6], [8, 7, 9, 1]]
        calls = [row(i, numbers) for i, numbers in enumerate(rows)]
        self.assertEqual(last(*calls, meet(0, 1, 1)), [0])
        self.assertEqual(all_rows(calls + [meet(0, 1, 1)]), [[1, 4, 1], [3, 2, 1], [5, 6], [8, 7, 9, 1]])

    def test_each_row_number(self):
        for i, j, k in itertools.product(range(4), repeat=3):
            calls = [row(i, [1, 4, 1]), row(j, [0, 3, 3]), meet(i, j, k)]
            self.assertEqual(last(*calls), [0])
            self.assertEqual(in_order(calls, k), [3, 3, 0] if i == j else [3, 2, 1])

    def test_the_row_in_which_they_meet_is_a_row_by_itself(self):
        calls = [row(0, [3, 1]), row(1, [4, 0]), meet(0, 1, 2), move(2, 0, 1, 1)]
        self.assertEqual(all_rows(calls), [[3, 1], [4, 0], [2, 2], [0]])
        calls = [row(0, [3, 1]), row(1, [4, 0]), meet(0, 1, 2), move(0, 0, 1, 1)]
        self.assertEqual(all_rows(calls), [[2, 2], [4, 0], [3, 1], [0]])

    def test_every_pair_of_small_rows(self):
        for n, total in ((1, 4), (2, 7), (3, 8), (4, 7), (5, 5)):
            rows = [list(r) for r in itertools.product(range(total + 1), repeat=n) if sum(r) == total]
            for first, second in itertools.product(rows[::3], rows[1::4]):
                told = ask(row(0, first), row(1, second), meet(0, 1, 2), told_sorted(2), over(0, 2), over(1, 2))[2:]
                self.assertEqual(told[:2], [[0], [n] + meet_by_definition(first, second)])
                self.assertIn(told[2], ([1], [3]))
                self.assertIn(told[3], ([1], [3]))


class MeetRefused(unittest.TestCase):
    rows = [[1, 4, 1], [0, 3, 3], [6], [1, 2, 2]]

    def check(self, i, j, k, number, rows=None):
        rows = rows or self.rows
        calls = [row(p, numbers) for p, numbers in enumerate(rows)]
        self.assertEqual(last(*calls, meet(i, j, k)), [number], (i, j, k))
        told = ask(*calls, meet(i, j, k), *[told_sorted(p) for p in range(4)])[5:]
        self.assertEqual([part[1:] for part in told], [sorted(numbers, reverse=True) for numbers in rows], (i, j, k))

    def test_i_outside(self):
        for i, j, k in itertools.product(OUTSIDE + (-2, -3, -4, 5), range(4), range(4)):
            self.check(i, j, k, -1)

    def test_j_outside(self):
        for i, j, k in itertools.product(range(4), OUTSIDE + (-2, -3, -4, 5), range(4)):
            self.check(i, j, k, -1)

    def test_k_outside(self):
        for k in OUTSIDE + (-2, -3, -4, 5):
            self.check(0, 1, k, -1)
            self.check(1, 0, k, -1)
            self.check(3, 3, k, -1)

    def test_several_outside(self):
        for i, j in itertools.product(OUTSIDE, repeat=2):
            self.check(i, j, 0, -1)
            self.check(i, 1, j, -1)
            self.check(2, i, j, -1)
            self.check(i, j, MOST, -1)
            self.check(LEAST, i, j, -1)

    def test_outside_though_the_rows_are_alike(self):
        for i, j in itertools.product(OUTSIDE, range(4)):
            self.check(i, j, 0, -1, [[1, 2]] * 4)
            self.check(j, i, 0, -1, [[1, 2]] * 4)
            self.check(0, j, i, -1, [[1, 2]] * 4)

    def test_not_as_many_numbers(self):
        for k in range(4):
            self.check(0, 2, k, -4)
            self.check(2, 1, k, -4)
            self.check(0, 1, k, -4, [[0, 4], [0, 4, 0], [3], [5]])
            self.check(1, 0, k, -4, [[1] * 11, [1] * 11 + [0], [3], [5]])

    def test_another_sum(self):
        for k in range(4):
            self.check(0, 3, k, -4)
            self.check(3, 1, k, -4)
            self.check(0, 1, k, -4, [[1000], [999], [3], [5]])
            self.check(0, 1, k, -4, [[0] * 12, [0] * 11 + [1], [3], [5]])

    def test_neither_as_many_numbers_nor_the_same_sum(self):
        for k in range(4):
            self.check(2, 3, k, -4)

    def test_outside_is_said_ahead_of_the_rest(self):
        for k in OUTSIDE:
            self.check(0, 2, k, -1)
            self.check(3, 0, k, -1)
            self.check(2, 3, k, -1)

    def test_rows_stay_as_they_were_put(self):
        calls = [row(i, numbers) for i, numbers in enumerate(self.rows)]
        for call in (meet(0, 3, 0), meet(3, 0, 1), meet(2, 1, 1), meet(0, 1, 4), meet(0, -1, 0), meet(MOST, 1, 1)):
            self.assertEqual(all_rows(calls + [call]), self.rows)


if __name__ == "__main__":
    unittest.main()
