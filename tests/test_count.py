import itertools
import math
import unittest

from tests.by_words import tables_by_sums
from tests.lines import OUTSIDE, all_rows, ask, count, last, row, told_sorted


def counted(first, second):
    return last(row(0, first), row(3, second), count(0, 3))


class Count(unittest.TestCase):
    def test_sums_that_differ(self):
        self.assertEqual(counted([1], [0]), [0])
        self.assertEqual(counted([2, 2], [2, 1]), [0])
        self.assertEqual(counted([1, 1, 1], [2, 2, 2]), [0])
        self.assertEqual(counted([0] * 6, [6] * 6), [0])

    def test_a_number_greater_than_there_are_columns(self):
        self.assertEqual(counted([2], [2]), [0])
        self.assertEqual(counted([3, 0], [2, 1]), [0])
        self.assertEqual(counted([4, 1, 1], [3, 3]), [0])
        self.assertEqual(counted([6], [6]), [0])

    def test_a_number_greater_than_there_are_lines(self):
        self.assertEqual(counted([2, 1], [3, 0]), [0])
        self.assertEqual(counted([3, 3], [4, 1, 1]), [0])

    def test_no_table_though_the_sums_fit(self):
        self.assertEqual(counted([2, 0], [2, 0]), [0])
        self.assertEqual(counted([3, 3, 0], [3, 3, 0]), [0])
        self.assertEqual(counted([6, 0, 0, 0, 0, 0], [6, 0, 0, 0, 0, 0]), [0])

    def test_one_table(self):
        self.assertEqual(counted([0], [0]), [1])
        self.assertEqual(counted([1], [1]), [1])
        self.assertEqual(counted([2, 1], [2, 1]), [1])
        self.assertEqual(counted([6, 5, 4, 3, 2, 1], [6, 5, 4, 3, 2, 1]), [1])
        self.assertEqual(counted([0, 2], [1, 1]), [1])

    def test_several_tables(self):
        self.assertEqual(counted([1, 1], [1, 1]), [2])
        self.assertEqual(counted([1, 1, 1], [2, 1]), [3])
        self.assertEqual(counted([2, 1], [1, 1, 1]), [3])
        self.assertEqual(counted([2, 2, 2], [2, 2, 2]), [6])
        self.assertEqual(counted([2] * 4, [2] * 4), [90])
        self.assertEqual(counted([2] * 5, [2] * 5), [2040])

    def test_rows_of_one_number(self):
        self.assertEqual(counted([6], [1] * 6), [1])
        self.assertEqual(counted([1] * 6, [6]), [1])
        self.assertEqual(counted([5], [1] * 6), [0])
        self.assertEqual(counted([5], [1, 1, 0, 1, 1, 1]), [1])
        self.assertEqual(counted([1, 0, 1], [2]), [1])

    def test_rows_of_six_numbers(self):
        for number, tables in enumerate((1, 720, 67950, 297200, 67950, 720, 1)):
            self.assertEqual(counted([number] * 6, [number] * 6), [tables], number)

    def test_one_one_in_each_line(self):
        for second in ([1, 2, 3], [6, 0, 0], [2, 2, 2], [1, 1, 1, 1, 1, 1], [3, 0, 2, 1]):
            tables = math.factorial(6)
            for number in second:
                tables //= math.factorial(number)
            self.assertEqual(counted([1] * 6, second), [tables])
            self.assertEqual(counted(second, [1] * 6), [tables])

    def test_numbers_of_0_and_6(self):
        self.assertEqual(counted([0] * 6, [0] * 6), [1])
        self.assertEqual(counted([6] * 6, [6] * 6), [1])
        self.assertEqual(counted([6, 0, 6, 0, 6, 0], [3] * 6), [1])
        self.assertEqual(counted([3] * 6, [0, 6, 0, 6, 0, 6]), [1])
        self.assertEqual(counted([0] * 3, [0] * 6), [1])

    def test_a_row_and_itself(self):
        for i in range(4):
            self.assertEqual(last(row(i, [3] * 6), count(i, i)), [297200])
            self.assertEqual(last(row(i, [1, 1, 1]), count(i, i)), [6])
            self.assertEqual(last(row(i, [2, 0]), count(i, i)), [0])
            self.assertEqual(last(count(i, i)), [1])

    def test_another_order(self):
        first, second = [3, 2, 1, 1], [1, 2, 2, 2]
        tables = tables_by_sums(4, 4)[tuple(first), tuple(second)]
        self.assertGreater(tables, 1)
        for order in itertools.permutations(first):
            self.assertEqual(counted(order, second), [tables])
            self.assertEqual(counted(second, order), [tables])
        for order in itertools.permutations(second):
            self.assertEqual(counted(first, order), [tables])

    def test_each_pair_of_row_numbers(self):
        rows = [[1, 1, 1, 1], [2, 2], [4], [3, 1, 0]]
        wanted = [[24, 6, 1, 4], [6, 1, 0, 0], [1, 0, 0, 0], [4, 0, 0, 0]]
        calls = [row(i, numbers) for i, numbers in enumerate(rows)]
        for i, j in itertools.product(range(4), repeat=2):
            self.assertEqual(last(*calls, count(i, j)), [wanted[i][j]], (i, j))

    def test_every_pair_of_small_rows(self):
        for lines, columns in itertools.product((1, 2, 3), (1, 2, 3, 4)):
            tables = tables_by_sums(lines, columns)
            seconds = list(itertools.product(range(lines + 2), repeat=columns))[::1 if columns < 4 else 3]
            for first in itertools.product(range(columns + 2), repeat=lines):
                wanted = [[tables[first, second]] for second in seconds]
                told = []
                for start in range(0, len(seconds), 199):  # a list holds 400 calls
                    calls = [call for second in seconds[start:start + 199] for call in (row(1, second), count(0, 1))]
                    told += ask(row(0, first), *calls)[2::2]
                self.assertTrue(told == wanted, first)

    def test_all_tables_of_six_columns(self):
        for lines in (1, 2, 3):
            tables = tables_by_sums(lines, 6)
            for first, second in sorted(tables)[::61]:
                self.assertEqual(counted(first, second), [tables[first, second]])
                self.assertEqual(counted(second, first), [tables[first, second]])

    def test_nothing_changes(self):
        rows = [[1, 3, 2], [2, 1, 0, 3], [5, 7], [4, 1, 2]]
        calls = [row(i, numbers) for i, numbers in enumerate(rows)]
        for i, j in ((0, 1), (1, 0), (3, 3), (0, 2)):
            self.assertEqual(all_rows(calls + [count(i, j)]), rows)

    def test_counted_again(self):
        calls = [row(0, [3] * 6), row(1, [3] * 6)] + [count(0, 1)] * 397
        self.assertTrue(ask(*calls)[2:] == [[297200]] * 397)


class CountRefused(unittest.TestCase):
    def check(self, rows, i, j):
        calls = [row(p, numbers) for p, numbers in enumerate(rows)]
        self.assertEqual(last(*calls, count(i, j)), [-1], (rows, i, j))
        told = ask(*calls, count(i, j), *[told_sorted(p) for p in range(4)])[5:]
        self.assertEqual([part[1:] for part in told], [sorted(numbers, reverse=True) for numbers in rows])

    def test_i_outside(self):
        for i, j in itertools.product(OUTSIDE + (-2, -3, -4, 5), range(4)):
            self.check([[1], [1, 0], [2, 2], [3] * 6], i, j)

    def test_j_outside(self):
        for i, j in itertools.product(range(4), OUTSIDE + (-2, -3, -4, 5)):
            self.check([[1], [1, 0], [2, 2], [3] * 6], i, j)

    def test_both_outside(self):
        for i, j in itertools.product(OUTSIDE, repeat=2):
            self.check([[1], [1, 0], [2, 2], [3] * 6], i, j)

    def test_seven_numbers_in_row_i(self):
        self.check([[1] * 7, [2, 2, 2, 1], [0], [0]], 0, 1)
        self.check([[0] * 7, [0], [0], [0]], 0, 1)

    def test_seven_numbers_in_row_j(self):
        self.check([[0], [0], [2, 2, 2, 1], [1] * 7], 2, 3)
        self.check([[0], [0], [0], [0] * 7], 2, 3)

    def test_seven_numbers_in_both(self):
        self.check([[1] * 7, [1] * 7, [0], [0]], 0, 1)
        self.check([[1] * 7, [1] * 7, [0], [0]], 1, 1)

    def test_twelve_numbers(self):
        self.check([[0] * 12, [0], [0], [0]], 0, 1)
        self.check([[0] * 12, [0], [0], [0]], 1, 0)

    def test_a_number_of_7_in_row_i(self):
        for p in range(6):
            first = [1] * 6
            first[p] = 7
            self.check([first, [2] * 6, [0], [0]], 0, 1)
        self.check([[7], [1] * 6, [0], [0]], 0, 1)
        self.check([[7], [0], [0], [0]], 0, 1)

    def test_a_number_of_7_in_row_j(self):
        for p in range(6):
            second = [1] * 6
            second[p] = 7
            self.check([[2] * 6, second, [0], [0]], 0, 1)
        self.check([[1] * 6, [7], [0], [0]], 0, 1)
        self.check([[0], [7], [0], [0]], 0, 1)

    def test_a_number_of_7_in_both(self):
        self.check([[7], [7], [0], [0]], 0, 1)
        self.check([[7], [7], [0], [0]], 0, 0)

    def test_great_numbers(self):
        self.check([[1000] * 6, [6] * 6, [0], [0]], 0, 1)
        self.check([[6] * 6, [0, 0, 1000], [0], [0]], 0, 1)

    def test_rows_stay_as_they_were_put(self):
        rows = [[1, 3, 2], [2, 1, 7], [0, 0, 0, 0, 0, 0, 1], [4, 5]]
        calls = [row(i, numbers) for i, numbers in enumerate(rows)]
        for call in (count(0, 1), count(1, 0), count(2, 3), count(0, 4), count(-1, 3)):
            self.assertEqual(last(*calls, call), [-1])
            self.assertEqual(all_rows(calls + [call]), rows)


if __name__ == "__main__":
    unittest.main()
