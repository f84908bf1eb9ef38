import itertools
import unittest

from tests.by_words import made_by_words
from tests.lines import LEAST, MOST, OUTSIDE, all_rows, ask, count, last, made, row


def table(first, second, most=12):
    return last(row(1, first), row(2, second), made(1, 2, most))


class Made(unittest.TestCase):
    def test_with_its_sums(self):
        self.assertEqual(table([1], [1]), [1, 1])
        self.assertEqual(table([2, 1], [1, 2]), [2, 0b11, 0b10])
        self.assertEqual(table([1, 2], [1, 2]), [2, 0b10, 0b11])
        self.assertEqual(table([2, 2, 1], [1, 1, 3]), [3, 0b101, 0b110, 0b100])
        self.assertEqual(table([1, 3, 2], [2, 1, 3]), [3, 0b100, 0b111, 0b101])

    def test_in_the_columns_that_want_most_still(self):
        self.assertEqual(table([1, 1, 1], [1, 2]), [3, 0b10, 0b01, 0b10])
        self.assertEqual(table([1, 1, 1, 1], [1, 3]), [4, 0b10, 0b10, 0b01, 0b10])

    def test_columns_that_want_alike(self):
        self.assertEqual(table([1, 1], [1, 1]), [2, 0b01, 0b10])
        self.assertEqual(table([2, 1], [1, 1, 1]), [2, 0b011, 0b100])
        self.assertEqual(table([2, 2, 2], [2, 2, 2]), [3, 0b011, 0b101, 0b110])
        self.assertEqual(table([2, 2], [0, 1, 2, 1]), [2, 0b0110, 0b1100])
        self.assertEqual(table([1] * 4, [2, 2]), [4, 0b01, 0b10, 0b01, 0b10])

    def test_without_its_sums(self):
        self.assertEqual(table([1], [0]), [0])
        self.assertEqual(table([0], [1]), [0])
        self.assertEqual(table([1, 1], [2, 1]), [0])
        self.assertEqual(table([2, 1], [1, 1]), [0])
        self.assertEqual(table([2, 0], [2, 0]), [0])
        self.assertEqual(table([2, 2], [3, 1]), [0])
        self.assertEqual(table([3, 3, 0], [3, 3, 0]), [0])

    def test_without_its_sums_whatever_most_is(self):
        for most in (LEAST, -1, 0, 1, 2, 12, 13, MOST):
            self.assertEqual(table([2, 0], [2, 0], most), [0])

    def test_more_ones_than_there_are_columns(self):
        self.assertEqual(table([2], [1]), [0])
        self.assertEqual(table([3], [1, 1]), [0])
        self.assertEqual(table([3, 1], [2, 2]), [0])
        self.assertEqual(table([3, 1], [2, 1]), [0])
        self.assertEqual(table([1000], [1] * 12), [0])
        self.assertEqual(table([1000] * 12, [12] * 12), [0])
        self.assertEqual(table([13], [1] * 12), [0])

    def test_as_many_ones_as_there_are_columns(self):
        self.assertEqual(table([2, 2], [2, 2]), [2, 0b11, 0b11])
        self.assertEqual(table([3], [1, 1, 1]), [1, 0b111])

    def test_a_column_of_1000(self):
        self.assertEqual(table([1], [1000]), [0])
        self.assertEqual(table([1] * 12, [1000]), [0])
        self.assertEqual(table([12] * 12, [12] * 11 + [1000]), [0])
        self.assertEqual(table([1000], [1000]), [0])
        self.assertEqual(table([1000, 0], [1000, 0]), [0])

    def test_lines_of_0(self):
        self.assertEqual(table([0], [0]), [1, 0])
        self.assertEqual(table([0, 1, 0], [1]), [3, 0, 1, 0])
        self.assertEqual(table([0] * 12, [0] * 12), [12] + [0] * 12)
        self.assertEqual(table([0, 2, 0, 1], [1, 0, 2]), [4, 0, 0b101, 0, 0b100])

    def test_new_rows(self):
        for i, j in itertools.product(range(4), repeat=2):
            self.assertEqual(last(made(i, j, 12)), [1, 0])

    def test_twelve_lines(self):
        self.assertEqual(table([1] * 12, [12]), [12] + [1] * 12)
        self.assertEqual(table([1, 0] * 6, [2, 4]), [12, 2, 0, 2, 0, 1, 0, 2, 0, 1, 0, 2, 0])

    def test_twelve_columns(self):
        self.assertEqual(table([12], [1] * 12), [1, 0b111111111111])
        self.assertEqual(table([1], [0] * 11 + [1]), [1, 0b100000000000])
        self.assertEqual(table([1, 1], [1] + [0] * 10 + [1]), [2, 1, 0b100000000000])

    def test_twelve_lines_and_columns(self):
        self.assertEqual(table([12] * 12, [12] * 12), [12] + [4095] * 12)
        self.assertEqual(table([1] * 12, [1] * 12), [12] + [1 << c for c in range(12)])
        self.assertEqual(table(list(range(1, 13)), list(range(1, 13))),
                         [12] + [4096 - (1 << (12 - ones)) for ones in range(1, 13)])

    def test_a_row_and_itself(self):
        for i in range(4):
            self.assertEqual(last(row(i, [1, 2]), made(i, i)), [2, 0b10, 0b11])
            self.assertEqual(last(row(i, [1, 1, 1]), made(i, i)), [3, 1, 2, 4])
            self.assertEqual(last(row(i, [0, 2]), made(i, i)), [0])

    def test_each_pair_of_row_numbers(self):
        rows = [[1, 1, 1], [2, 1], [1, 2], [0, 1, 1, 1]]
        calls = [row(i, numbers) for i, numbers in enumerate(rows)]
        for i, j in itertools.product(range(4), repeat=2):
            lines = made_by_words(rows[i], rows[j])
            self.assertEqual(last(*calls, made(i, j)), [0] if lines is None else [len(lines)] + lines, (i, j))

    def test_lines_are_made_in_the_order_of_the_row(self):
        self.assertEqual(table([3, 1, 2], [3, 2, 1]), [3, 0b111, 0b001, 0b011])
        self.assertEqual(table([1, 2, 3], [3, 2, 1]), [3, 0b001, 0b011, 0b111])

    def test_every_pair_of_small_rows(self):
        for lines, columns in itertools.product((1, 2, 3), (1, 2, 3)):
            seconds = list(itertools.product(range(lines + 2), repeat=columns))
            for first in itertools.product(range(columns + 2), repeat=lines):
                calls = [call for second in seconds for call in (row(3, second), made(2, 3), count(2, 3))]
                told = ask(row(2, first), *calls)[1:]
                wanted = [made_by_words(first, second) for second in seconds]
                self.assertEqual(told[1::3], [[0] if table is None else [lines] + table for table in wanted])
                # A table is made just where there is one.
                self.assertEqual([part[0] > 0 for part in told[2::3]], [table is not None for table in wanted])

    def test_longer_rows(self):
        made_ones = 0
        for first in itertools.permutations([5, 3, 2, 2, 1]):
            for second in ([1, 3, 2, 2, 3, 2], [0, 5, 4, 1, 2, 1], [3, 3, 3, 2, 2, 0], [2, 3, 1, 1, 1, 5]):
                lines = made_by_words(first, second)
                self.assertEqual(table(first, second), [0] if lines is None else [5] + lines)
                made_ones += lines is not None
        self.assertGreater(made_ones, 100)

    def test_nothing_changes(self):
        rows = [[1, 3, 2], [2, 1, 3], [5, 7], [1000, 1, 0]]
        calls = [row(i, numbers) for i, numbers in enumerate(rows)]
        for i, j in ((0, 1), (1, 0), (1, 1), (2, 0), (0, 2), (3, 3), (3, 1)):
            self.assertEqual(all_rows(calls + [made(i, j)]), rows)

    def test_made_again(self):
        calls = [row(0, [2, 1]), row(1, [1, 2]), made(0, 1), made(0, 1), made(1, 0), made(0, 1)]
        self.assertEqual(ask(*calls)[2:], [[2, 3, 2], [2, 3, 2], [2, 1, 3], [2, 3, 2]])


class MadeMost(unittest.TestCase):
    lines = [3, 0b011, 0b101, 0b110]

    def check(self, most, told):
        self.assertEqual(table([2, 2, 2], [2, 2, 2], most), told, most)

    def test_less_than_there_are(self):
        self.check(1, self.lines[:2])
        self.check(2, self.lines[:3])

    def test_as_many_as_there_are(self):
        self.check(3, self.lines)

    def test_more_than_there_are(self):
        for most in (4, 11, 12):
            self.check(most, self.lines)

    def test_outside_1_to_12(self):
        for most in (0, 13, 14, -1, -2, -3, -12, LEAST, MOST):
            self.check(most, [3])

    def test_with_twelve_lines(self):
        for most in range(-2, 15):
            wanted = [12] + ([1 << c for c in range(most)] if 1 <= most <= 12 else [])
            self.assertEqual(table([1] * 12, [1] * 12, most), wanted)


class MadeRefused(unittest.TestCase):
    rows = [[1, 1], [2, 0], [0], [1, 3, 2]]

    def check(self, i, j, most):
        calls = [row(p, numbers) for p, numbers in enumerate(self.rows)]
        self.assertEqual(last(*calls, made(i, j, most)), [-1], (i, j, most))

    def test_i_outside(self):
        for i, j, most in itertools.product(OUTSIDE + (-2, -3, -4, 5), range(4), (0, 1, 12, 13)):
            self.check(i, j, most)

    def test_j_outside(self):
        for i, j, most in itertools.product(range(4), OUTSIDE + (-2, -3, -4, 5), (0, 1, 12, 13)):
            self.check(i, j, most)

    def test_both_outside(self):
        for i, j, most in itertools.product(OUTSIDE, OUTSIDE, (LEAST, -1, 0, 1, 12, 13, MOST)):
            self.check(i, j, most)

    def test_nothing_changes(self):
        calls = [row(p, numbers) for p, numbers in enumerate(self.rows)]
        for i, j in ((-1, 3), (3, 4), (LEAST, MOST)):
            self.assertEqual(all_rows(calls + [made(i, j)]), self.rows)


if __name__ == "__main__":
    unittest.main()
