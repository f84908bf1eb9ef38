import itertools
import unittest

from tests.by_words import over_by_definition, step_by_words
from tests.lines import OUTSIDE, all_rows, ask, in_order, last, move, over, row, step, told_sorted


def stepped(first, second):
    """What is answered, and row i behind it."""
    calls = [row(2, first), row(1, second), step(2, 1)]
    return last(*calls), in_order(calls, 2)


def all_steps(first, second):
    """The row behind each step, up to the one at which 0 is answered."""
    rows = []
    calls = [row(0, first), row(3, second)]
    while len(rows) < 50:
        calls.append(step(0, 3))
        told = last(*calls)
        if told == [0]:
            return rows
        assert told == [1], told
        rows.append(in_order(calls, 0))
    raise AssertionError("no end of steps")


class Step(unittest.TestCase):
    def test_a_step_that_gets_there(self):
        self.assertEqual(stepped([4, 0], [2, 2]), ([1], [2, 2]))
        self.assertEqual(stepped([4, 0], [3, 1]), ([1], [3, 1]))

    def test_the_less_at_k_is_the_lesser(self):
        self.assertEqual(stepped([6, 0, 0], [2, 2, 2]), ([1], [4, 2, 0]))

    def test_the_more_at_j_is_the_lesser(self):
        self.assertEqual(stepped([5, 4, 0], [4, 3, 2]), ([1], [5, 3, 1]))

    def test_the_last_place_with_more_is_taken(self):
        self.assertEqual(stepped([6, 6, 6, 0], [5, 5, 5, 3]), ([1], [6, 6, 5, 1]))
        self.assertEqual(stepped([9, 8, 4, 2, 0], [8, 6, 4, 3, 2]), ([1], [9, 7, 4, 3, 0]))

    def test_the_last_place_with_more_lies_behind_one_with_less(self):
        self.assertEqual(stepped([6, 2, 2, 0], [5, 3, 1, 1]), ([1], [6, 2, 1, 1]))

    def test_the_first_place_with_less_behind_it_is_taken(self):
        self.assertEqual(stepped([6, 1, 1], [4, 2, 2]), ([1], [5, 2, 1]))
        self.assertEqual(stepped([9, 4, 4, 1, 0], [7, 4, 4, 2, 1]), ([1], [8, 4, 4, 2, 0]))

    def test_unsorted_rows(self):
        self.assertEqual(stepped([1, 6, 2], [2, 3, 4]), ([1], [5, 3, 1]))
        self.assertEqual(stepped([0, 4], [1, 3]), ([1], [3, 1]))

    def test_sorted_alike(self):
        self.assertEqual(stepped([3, 2, 1], [3, 2, 1]), ([0], [3, 2, 1]))
        self.assertEqual(stepped([7], [7]), ([0], [7]))
        self.assertEqual(stepped([1000] * 12, [1000] * 12), ([0], [1000] * 12))

    def test_sorted_alike_and_sorted_from_then_on(self):
        self.assertEqual(stepped([1, 3, 2], [2, 1, 3]), ([0], [3, 2, 1]))
        calls = [row(0, [1, 3, 2]), row(1, [2, 1, 3]), step(0, 1)]
        self.assertEqual(ask(*calls, move(0, 0, 2, 4), move(0, 0, 2, 3))[2:], [[0], [-1], [0]])

    def test_a_row_and_itself(self):
        for i in range(4):
            calls = [row(i, [2, 9, 0, 4]), step(i, i)]
            self.assertEqual(last(*calls), [0])
            self.assertEqual(in_order(calls, i), [9, 4, 2, 0])
            self.assertEqual(ask(step(i, i), told_sorted(i)), [[0], [1, 0]])

    def test_new_rows(self):
        for i, j in itertools.product(range(4), repeat=2):
            self.assertEqual(last(step(i, j)), [0])

    def test_step_by_step(self):
        self.assertEqual(all_steps([6, 0, 0], [2, 2, 2]), [[4, 2, 0], [2, 2, 2]])
        self.assertEqual(all_steps([6, 2, 2, 0], [3, 1, 5, 1]), [[6, 2, 1, 1], [5, 3, 1, 1]])
        self.assertEqual(all_steps([3, 0, 9], [4, 4, 4]), [[8, 4, 0], [4, 4, 4]])
        self.assertEqual(all_steps([3, 0], [0, 3]), [])

    def test_step_by_step_over_twelve_places(self):
        wanted = [[1000] * (5 - k) + [500] * (2 + 2 * k) + [0] * (5 - k) for k in range(6)]
        self.assertEqual(all_steps([0] * 6 + [1000] * 6, [500] * 12), wanted)
        wanted = [[12 - k] + [1] * k + [0] * (11 - k) for k in range(1, 12)]
        self.assertEqual(all_steps([12] + [0] * 11, [1] * 12), wanted)

    def test_a_step_further_from_where_the_last_one_went(self):
        calls = [row(0, [6, 0, 0]), row(1, [2, 2, 2]), step(0, 1), over(0, 1), move(0, 2, 0, 0), step(0, 1), over(0, 1)]
        self.assertEqual(ask(*calls)[2:], [[1], [1], [1], [1], [3]])

    def test_every_pair_of_small_rows(self):
        rows = [list(r) for n, total in ((1, 3), (2, 5), (3, 7), (4, 7), (5, 6))
                for r in itertools.product(range(total + 1), repeat=n) if sum(r) == total]
        seen = 0
        for first in rows[::3]:
            for second in rows:
                if second != sorted(second, reverse=True) or not over_by_definition(first, second):
                    continue
                x = sorted(first, reverse=True)
                after = step_by_words(x, second)
                told = ask(row(0, first), row(1, second), step(0, 1), told_sorted(0))[2:]
                self.assertEqual(told, [[0 if after is None else 1], [len(x)] + (x if after is None else after)])
                seen += 1
        self.assertGreater(seen, 300)

    def test_longer_rows(self):
        second = [7, 6, 6, 5, 4, 4, 3, 2, 2, 1, 0, 0]
        for p, q in itertools.combinations(range(12), 2):
            first = list(second)
            first[p] += first[q]
            first[q] = 0
            first[0], first[11] = first[0] + first[11], 0
            x = sorted(first, reverse=True)
            after = step_by_words(x, second)
            self.assertEqual(stepped(first, second[::-1]), ([0], x) if after is None else ([1], after))

    def test_only_row_i_changes(self):
        rows = [[0, 6, 0], [2, 1, 3], [1, 4], [5, 7, 6]]
        calls = [row(i, numbers) for i, numbers in enumerate(rows)]
        self.assertEqual(all_rows(calls + [step(0, 1)]), [[4, 2, 0], [2, 1, 3], [1, 4], [5, 7, 6]])
        calls = calls[2:] + [row(0, [2, 1, 3]), row(1, [0, 6, 0])]
        self.assertEqual(all_rows(calls + [step(1, 0)]), [[2, 1, 3], [4, 2, 0], [1, 4], [5, 7, 6]])

    def test_row_j_stays_where_nothing_is_left_to_do(self):
        calls = [row(0, [1, 2]), row(3, [1, 2])]
        self.assertEqual(all_rows(calls + [step(0, 3)]), [[2, 1], [0], [0], [1, 2]])
        self.assertEqual(all_rows(calls + [step(0, 3), move(0, 0, 1, 1)]), [[1, 2], [0], [0], [1, 2]])


class StepRefused(unittest.TestCase):
    rows = [[1, 4, 1], [0, 3, 3], [6], [1, 2, 2]]

    def check(self, i, j, number, rows=None):
        rows = rows or self.rows
        calls = [row(p, numbers) for p, numbers in enumerate(rows)]
        self.assertEqual(last(*calls, step(i, j)), [number], (i, j))
        self.assertEqual(all_rows(calls + [step(i, j)]), rows, (i, j))

    def test_i_outside(self):
        for i in OUTSIDE + (-2, -3, -4, 5):
            for j in range(4):
                self.check(i, j, -1)

    def test_j_outside(self):
        for j in OUTSIDE + (-2, -3, -4, 5):
            for i in range(4):
                self.check(i, j, -1)

    def test_both_outside(self):
        for i, j in itertools.product(OUTSIDE, repeat=2):
            self.check(i, j, -1)

    def test_outside_though_the_rows_are_alike(self):
        for i, j in itertools.product(OUTSIDE, range(4)):
            self.check(i, j, -1, [[1, 2], [1, 2], [1, 2], [1, 2]])
            self.check(j, i, -1, [[1, 2], [1, 2], [1, 2], [1, 2]])

    def test_neither_is_over_the_other(self):
        self.check(0, 1, -4)
        self.check(1, 0, -4)

    def test_not_as_many_numbers(self):
        self.check(0, 2, -4)
        self.check(2, 0, -4)
        rows = [[0, 4], [0, 4, 0], [4], [2, 2]]
        for i, j in itertools.permutations(range(3), 2):
            self.check(i, j, -4, rows)

    def test_another_sum(self):
        self.check(0, 3, -4)
        self.check(3, 0, -4)
        rows = [[0, 9, 0], [1, 1, 2], [5], [6]]
        for i, j in ((0, 1), (1, 0), (2, 3), (3, 2)):
            self.check(i, j, -4, rows)

    def test_row_j_is_over_row_i_alone(self):
        rows = [[1, 3], [0, 4], [2, 2, 3, 2], [3, 1, 4, 1]]
        self.check(0, 1, -4, rows)
        self.check(2, 3, -4, rows)
        self.assertEqual(stepped(rows[1], rows[0])[0], [1])
        self.assertEqual(stepped(rows[3], rows[2])[0], [1])

    def test_steps_go_on_behind_a_refusal(self):
        self.assertEqual(ask(row(0, [1, 3]), row(1, [0, 4]), step(0, 1), step(1, 4), step(1, 0), step(1, 0), step(0, 1),
                             told_sorted(0), told_sorted(1))[2:], [[-4], [-1], [1], [0], [0], [2, 3, 1], [2, 3, 1]])


if __name__ == "__main__":
    unittest.main()
