import itertools
import unittest

from tests.by_words import over_by_definition
from tests.lines import LEAST, MOST, OUTSIDE, all_rows, ask, in_order, last, move, over, row, told_sorted


def moved(numbers, p, q, a):
    """What is answered, and the row behind it."""
    calls = [row(1, numbers), move(1, p, q, a)]
    return last(*calls), in_order(calls, 1)


class Move(unittest.TestCase):
    def test_to_a_more_even_row(self):
        self.assertEqual(moved([8, 2, 5], 0, 1, 3), ([1], [5, 5, 5]))
        self.assertEqual(moved([2, 8], 1, 0, 1), ([1], [3, 7]))

    def test_to_a_less_even_row(self):
        self.assertEqual(moved([8, 2, 5], 1, 0, 1), ([0], [9, 1, 5]))
        self.assertEqual(moved([4, 4], 0, 1, 1), ([0], [3, 5]))

    def test_two_that_change_places(self):
        self.assertEqual(moved([8, 2, 5], 0, 1, 6), ([1], [2, 8, 5]))

    def test_too_much_moved(self):
        self.assertEqual(moved([8, 2, 5], 0, 1, 7), ([0], [1, 9, 5]))

    def test_nothing_moved(self):
        for p, q in itertools.permutations(range(3), 2):
            self.assertEqual(moved([8, 0, 1000], p, q, 0), ([1], [8, 0, 1000]))

    def test_all_that_is_there(self):
        self.assertEqual(moved([8, 2, 5], 2, 1, 5), ([0], [8, 7, 0]))
        self.assertEqual(moved([8, 0, 5], 2, 1, 5), ([1], [8, 5, 0]))
        self.assertEqual(moved([8, 2, 5], 1, 2, 2), ([0], [8, 0, 7]))

    def test_1000_afterwards(self):
        self.assertEqual(moved([1, 999], 0, 1, 1), ([0], [0, 1000]))
        self.assertEqual(moved([1000, 0], 0, 1, 1000), ([1], [0, 1000]))
        self.assertEqual(moved([600, 700, 3], 0, 1, 300), ([0], [300, 1000, 3]))

    def test_first_and_last_place_of_twelve(self):
        numbers = list(range(12))
        self.assertEqual(moved(numbers, 11, 0, 4), ([1], [4, 1, 2, 3, 4, 5, 6, 7, 8, 9, 10, 7]))
        self.assertEqual(moved(numbers, 1, 11, 1), ([0], [0, 0, 2, 3, 4, 5, 6, 7, 8, 9, 10, 12]))

    def test_each_row_by_itself(self):
        rows = [row(i, [i + 5, i]) for i in range(4)]
        for i in range(4):
            wanted = [[k + 5, k] for k in range(4)]
            wanted[i] = [i + 3, i + 2]
            self.assertEqual(last(*rows, move(i, 0, 1, 2)), [1])
            self.assertEqual(all_rows(rows + [move(i, 0, 1, 2)]), wanted)

    def test_places_are_those_of_the_row_as_it_was_put(self):
        self.assertEqual(moved([1, 9, 4], 1, 2, 2), ([1], [1, 7, 6]))

    def test_every_move_in_small_rows(self):
        for numbers in itertools.product(range(4), repeat=3):
            for p, q in itertools.permutations(range(3), 2):
                for a in range(numbers[p] + 1):
                    after = list(numbers)
                    after[p] -= a
                    after[q] += a
                    told = ask(row(0, numbers), move(0, p, q, a), told_sorted(0))[1:]
                    self.assertEqual(told, [[int(over_by_definition(numbers, after))],
                                            [3] + sorted(after, reverse=True)])

    def test_later_calls_see_it(self):
        self.assertEqual(
            ask(row(0, [6, 0]), row(1, [4, 2]), over(0, 1), move(0, 0, 1, 2), over(0, 1), told_sorted(0),
                move(0, 0, 1, 5), move(0, 0, 1, 4), told_sorted(0), over(0, 1)),
            [[2], [2], [1], [1], [3], [2, 4, 2], [-1], [0], [2, 6, 0], [1]])

    def test_there_and_back(self):
        calls = [row(0, [6, 1]), move(0, 0, 1, 2), move(0, 1, 0, 2)]
        self.assertEqual(ask(*calls), [[2], [1], [0]])
        self.assertEqual(in_order(calls, 0), [6, 1])


class MoveRefused(unittest.TestCase):
    rows = [[700, 600, 3], [5, 5], [0], [1000] * 12]

    def check(self, call, number):
        calls = [row(i, numbers) for i, numbers in enumerate(self.rows)]
        self.assertEqual(last(*calls, call), [number], call)
        self.assertEqual([part[1:] for part in ask(*calls, call, *[told_sorted(i) for i in range(4)])[5:]],
                         [sorted(numbers, reverse=True) for numbers in self.rows], call)
        self.assertEqual([in_order(calls + [call], i) for i in (0, 1)], self.rows[:2], call)

    def test_i_outside(self):
        for i in OUTSIDE:
            self.check(move(i, 0, 1, 1), -1)
            self.check(move(i, 0, 1, 0), -1)

    def test_p_no_place(self):
        for p in (-1, -3, 3, 4, 12, LEAST, MOST):
            self.check(move(0, p, 1, 0), -1)
        for p in (-1, -2, 2, LEAST, MOST):
            self.check(move(1, p, 1, 1), -1)
        for p in (-1, -12, 12, LEAST, MOST):
            self.check(move(3, p, 1, 0), -1)

    def test_q_no_place(self):
        for q in (-1, -3, 3, 4, 12, LEAST, MOST):
            self.check(move(0, 0, q, 0), -1)
        for q in (-1, -2, 2, LEAST, MOST):
            self.check(move(1, 0, q, 1), -1)
        for q in (-1, -12, 12, LEAST, MOST):
            self.check(move(3, 0, q, 0), -1)

    def test_p_and_q_the_same(self):
        for i, p in ((0, 0), (0, 2), (1, 1), (2, 0), (3, 11)):
            self.check(move(i, p, p, 0), -1)
        self.check(move(0, 1, 1, 600), -1)

    def test_p_and_q_the_same_but_no_place(self):
        self.check(move(0, 3, 3, 0), -1)
        self.check(move(0, -1, -1, 0), -1)

    def test_a_row_of_one_number_has_no_two_places(self):
        self.check(move(2, 0, 1, 0), -1)
        self.check(move(2, 1, 0, 0), -1)

    def test_a_below_0(self):
        for a in (-1, -3, -600, LEAST):
            self.check(move(0, 0, 1, a), -1)

    def test_a_above_what_is_at_p(self):
        for a in (4, 5, 600, MOST):
            self.check(move(0, 2, 0, a), -1)
        self.check(move(1, 0, 1, 6), -1)

    def test_more_than_1000_at_q(self):
        self.check(move(0, 0, 1, 401), -2)
        self.check(move(0, 0, 1, 700), -2)
        self.check(move(0, 1, 0, 301), -2)
        self.check(move(3, 0, 11, 1), -2)
        self.check(move(3, 11, 0, 1000), -2)

    def test_just_not_more_than_1000_is_allowed(self):
        self.assertEqual(moved([700, 600, 3], 0, 1, 400), ([0], [300, 1000, 3]))
        self.assertEqual(moved([1000, 1000], 0, 1, 0), ([1], [1000, 1000]))

    def test_outside_is_said_ahead_of_too_much(self):
        self.check(move(0, 0, 1, 701), -1)
        self.check(move(0, 0, 1, MOST), -1)
        self.check(move(0, 0, 0, 700), -1)
        self.check(move(3, 0, 1, 1001), -1)
        self.check(move(3, 4, 4, 1000), -1)


if __name__ == "__main__":
    unittest.main()
