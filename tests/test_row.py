import unittest

from tests.lines import OUTSIDE, all_rows, ask, last, row, told_sorted

TWELVE = [5, 0, 1000, 7, 7, 3, 999, 1, 12, 0, 64, 2]
FILLED = [row(0, [3, 1, 2]), row(1, [8]), row(2, TWELVE), row(3, [0, 1000])]
FILLED_ROWS = [[3, 1, 2], [8], TWELVE, [0, 1000]]


class Row(unittest.TestCase):
    def test_each_row_by_itself(self):
        for i in range(4):
            rows = [[0], [0], [0], [0]]
            rows[i] = [4, 9, 2]
            self.assertEqual(last(row(i, [4, 9, 2])), [3])
            self.assertEqual(all_rows([row(i, [4, 9, 2])]), rows)

    def test_every_length(self):
        for n in range(1, 13):
            self.assertEqual(last(row(1, TWELVE[:n])), [n])
            self.assertEqual(all_rows([row(1, TWELVE[:n])])[1], TWELVE[:n])

    def test_the_numbers_0_and_1000(self):
        for numbers in ([0], [1000], [0] * 12, [1000] * 12, [0, 1000], [1000, 0]):
            self.assertEqual(last(row(3, numbers)), [len(numbers)])
            self.assertEqual(all_rows([row(3, numbers)])[3], numbers)

    def test_a_later_row_takes_the_place_of_an_earlier_one(self):
        self.assertEqual(ask(row(0, [1, 2, 3]), row(0, [9]), told_sorted(0)), [[3], [1], [1, 9]])
        self.assertEqual(ask(row(0, [9]), row(0, [1, 2, 3]), told_sorted(0)), [[1], [3], [3, 3, 2, 1]])

    def test_all_four_rows_at_once(self):
        self.assertEqual(ask(*FILLED), [[3], [1], [12], [2]])
        self.assertEqual(all_rows(FILLED), FILLED_ROWS)


class RowRefused(unittest.TestCase):
    def check_refused(self, call):
        self.assertEqual(last(*FILLED, call), [-1], call)
        self.assertEqual(all_rows(FILLED + [call]), FILLED_ROWS, call)

    def test_i_outside(self):
        for i in OUTSIDE:
            self.check_refused(row(i, [1, 2]))

    def test_no_numbers(self):
        for i in range(4):
            self.check_refused(row(i, []))

    def test_a_number_above_1000(self):
        for number in (1001, 65535):
            self.check_refused(row(0, [number]))
            self.check_refused(row(1, [number, 0, 0]))
            self.check_refused(row(2, [0, number, 0]))
            self.check_refused(row(3, [0] * 11 + [number]))

    def test_all_wrong_at_once(self):
        for i in OUTSIDE:
            self.check_refused(row(i, []))
            self.check_refused(row(i, [1001]))

    def test_more_than_twelve_numbers(self):
        self.check_refused(row(0, [1] * 13))


if __name__ == "__main__":
    unittest.main()
