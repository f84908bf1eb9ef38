import itertools
import unittest

from tests.by_words import over_by_definition
from tests.lines import OUTSIDE, all_rows, ask, last, over, row


def compared(first, second):
    return last(row(0, first), row(1, second), over(0, 1))


class Over(unittest.TestCase):
    def test_first_over_second(self):
        self.assertEqual(compared([4, 0], [3, 1]), [1])
        self.assertEqual(compared([12] + [0] * 11, [1] * 12), [1])

    def test_second_over_first(self):
        self.assertEqual(compared([3, 1], [4, 0]), [2])
        self.assertEqual(compared([1] * 12, [12] + [0] * 11), [2])

    def test_both(self):
        self.assertEqual(compared([5, 3, 1], [5, 3, 1]), [3])

    def test_neither(self):
        self.assertEqual(compared([4, 1, 1], [3, 3, 0]), [0])
        self.assertEqual(compared([3, 3, 0], [4, 1, 1]), [0])

    def test_neither_only_by_the_first_or_a_late_number(self):
        self.assertEqual(compared([4, 4, 4, 0], [5, 3, 2, 2]), [0])
        self.assertEqual(compared([9, 5, 5, 5, 0], [10, 4, 4, 4, 2]), [0])

    def test_a_row_and_itself(self):
        for i in range(4):
            self.assertEqual(last(over(i, i)), [3])
            self.assertEqual(last(row(i, [2, 7, 1]), over(i, i)), [3])

    def test_another_sum(self):
        self.assertEqual(compared([5, 0], [3, 1]), [0])
        self.assertEqual(compared([3, 1], [5, 0]), [0])
        self.assertEqual(compared([0], [1]), [0])

    def test_not_as_many_numbers(self):
        self.assertEqual(compared([4], [4, 0]), [0])
        self.assertEqual(compared([4, 0], [4]), [0])
        self.assertEqual(compared([6], [2, 2, 2]), [0])
        self.assertEqual(compared([0, 0], [0]), [0])

    def test_another_order(self):
        self.assertEqual(compared([1, 3, 5], [5, 1, 3]), [3])
        self.assertEqual(compared([0, 0, 6], [3, 2, 1]), [1])
        self.assertEqual(compared([1, 2, 3], [0, 6, 0]), [2])

    def test_greatest_numbers(self):
        self.assertEqual(compared([1000] * 12, [1000] * 12), [3])
        self.assertEqual(compared([1000] * 6 + [0] * 6, [500] * 12), [1])

    def test_every_pair_of_small_rows(self):
        rows = [list(r) for n in (1, 2, 3) for r in itertools.product(range(4), repeat=n)]
        for first in rows:
            calls = [call for second in rows for call in (row(3, second), over(2, 3))]
            told = ask(row(2, first), *calls)[2::2]
            self.assertEqual(told, [[over_by_definition(first, second) + 2 * over_by_definition(second, first)]
                                    for second in rows])

    def test_sorted_rows_of_four(self):
        rows = [list(r) for r in itertools.product(range(9), repeat=4) if sum(r) == 8 and sorted(r) == list(r)]
        for first, second in itertools.product(rows, repeat=2):
            self.assertEqual(compared(first, second),
                             [over_by_definition(first, second) + 2 * over_by_definition(second, first)])

    def test_each_pair_of_row_numbers(self):
        rows = [[9, 0, 0], [7, 2, 0], [5, 4, 0], [3, 3, 3]]
        calls = [row(i, numbers) for i, numbers in enumerate(rows)]
        for i, j in itertools.product(range(4), repeat=2):
            self.assertEqual(last(*calls, over(i, j)), [1 if i < j else 2 if i > j else 3])

    def test_nothing_changes(self):
        calls = [row(0, [1, 3, 5]), row(1, [2, 6, 1])]
        self.assertEqual(all_rows(calls + [over(0, 1), over(1, 0)]), [[1, 3, 5], [2, 6, 1], [0], [0]])


class OverRefused(unittest.TestCase):
    def check_refused(self, i, j):
        calls = [row(0, [3, 1]), row(3, [5, 6, 4])]
        self.assertEqual(last(*calls, over(i, j)), [-1], (i, j))
        self.assertEqual(all_rows(calls + [over(i, j)]), [[3, 1], [0], [0], [5, 6, 4]], (i, j))

    def test_i_outside(self):
        for i in OUTSIDE:
            for j in range(4):
                self.check_refused(i, j)

    def test_j_outside(self):
        for j in OUTSIDE:
            for i in range(4):
                self.check_refused(i, j)

    def test_both_outside(self):
        for i, j in itertools.product(OUTSIDE, repeat=2):
            self.check_refused(i, j)


if __name__ == "__main__":
    unittest.main()
