import unittest

from tests.lines import LEAST, MOST, OUTSIDE, all_rows, ask, in_order, last, row, told_sorted

TWELVE = [5, 0, 1000, 7, 7, 3, 999, 1, 12, 0, 64, 2]
TWELVE_SORTED = [1000, 999, 64, 12, 7, 7, 5, 3, 2, 1, 0, 0]


class Sorted(unittest.TestCase):
    def test_already_sorted(self):
        self.assertEqual(last(row(0, [9, 5, 2]), told_sorted(0)), [3, 9, 5, 2])

    def test_the_other_way_round(self):
        self.assertEqual(last(row(0, [2, 5, 9]), told_sorted(0)), [3, 9, 5, 2])

    def test_some_alike(self):
        self.assertEqual(last(row(0, [2, 9, 2, 9, 2]), told_sorted(0)), [5, 9, 9, 2, 2, 2])
        self.assertEqual(last(row(0, [4, 4, 4]), told_sorted(0)), [3, 4, 4, 4])

    def test_numbers_are_sorted_as_numbers(self):
        self.assertEqual(last(row(0, [9, 10, 100, 1000]), told_sorted(0)), [4, 1000, 100, 10, 9])

    def test_each_row(self):
        rows = [row(i, [i, i + 10]) for i in range(4)]
        self.assertEqual(ask(*rows, *[told_sorted(i) for i in range(4)])[4:],
                         [[2, i + 10, i] for i in range(4)])

    def test_one_number(self):
        for most in (1, 2, 12):
            self.assertEqual(last(row(2, [7]), told_sorted(2, most)), [1, 7])


class SortedMost(unittest.TestCase):
    def test_less_than_equal_to_and_greater_than_how_many_there_are(self):
        for most in range(1, 13):
            self.assertEqual(last(row(1, [1, 4, 2, 8, 6]), told_sorted(1, most)), [5] + [8, 6, 4, 2, 1][:most])

    def test_of_twelve(self):
        for most in range(1, 13):
            self.assertEqual(last(row(1, TWELVE), told_sorted(1, most)), [12] + TWELVE_SORTED[:most])

    def test_none_of_most_outside(self):
        for most in (0, 13, 14, -1, -2, -12, LEAST, MOST):
            self.assertEqual(last(row(1, TWELVE), told_sorted(1, most)), [12])
            self.assertEqual(last(row(1, [3, 5]), told_sorted(1, most)), [2])

    def test_the_row_stays_in_its_own_order(self):
        for most in (0, 1, 3, 12, 13):
            self.assertEqual(in_order([row(0, TWELVE), told_sorted(0, most)], 0), TWELVE)


class SortedRefused(unittest.TestCase):
    def test_i_outside(self):
        calls = [row(0, [3, 1]), row(3, [5, 6, 4])]
        for i in OUTSIDE:
            for most in (1, 12, 0, 13, LEAST, MOST):
                refused = told_sorted(i, most)
                self.assertEqual(last(*calls, refused), [-1])
                self.assertEqual(all_rows(calls + [refused]), [[3, 1], [0], [0], [5, 6, 4]])


if __name__ == "__main__":
    unittest.main()
