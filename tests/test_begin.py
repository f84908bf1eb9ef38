import unittest

from tests.lines import BEGIN, all_rows, ask, move, row, told_sorted

NEW = [[0], [0], [0], [0]]


class Begin(unittest.TestCase):
    def test_each_row_is_the_number_0(self):
        self.assertEqual(ask(*[told_sorted(i) for i in range(4)]), [[1, 0]] * 4)

    def test_begin_again_makes_all_four_rows_anew(self):
        filled = [row(i, [i + 1, 9, i]) for i in range(4)] + [move(2, 1, 0, 5)]
        self.assertNotIn([0], all_rows(filled))
        self.assertEqual(ask(*filled, BEGIN)[-1], [0])
        self.assertEqual(all_rows(filled + [BEGIN]), NEW)

    def test_a_row_put_behind_a_second_begin_stays(self):
        self.assertEqual(all_rows([row(0, [1, 2]), BEGIN, row(1, [3, 4])]), [[0], [3, 4], [0], [0]])

    def test_a_new_row_is_not_shared_between_rows_or_begins(self):
        calls = [row(0, [4]), BEGIN, row(3, [6])]
        self.assertEqual(all_rows(calls), [[0], [0], [0], [6]])

    def test_begin_twice_at_once(self):
        self.assertEqual(all_rows([BEGIN, BEGIN]), NEW)


if __name__ == "__main__":
    unittest.main()
