import itertools
import unittest

from evenrowsdesk.desk import answers
from tests.lines import (BEGIN, LEAST, MOST, all_rows, ask, count, line, made, meet, move, over, row, split, step,
                         told_sorted)
from tests.model import model_answers
from tests.test_list import Unchanging

CALLS = (BEGIN, row(0, [1, 4, 1]), told_sorted(0), over(0, 1), move(0, 1, 2, 1), step(0, 1), meet(0, 1, 2),
         count(0, 1), made(0, 1))
ROWS = [row(0, [0, 4, 2]), row(1, [3, 0, 3]), row(2, [2, 2, 2]), row(3, [5, 1])]
# Rows of one and the same sum, so that one is often over another.
SHARES = [shares for shares in itertools.product(range(7), repeat=3) if sum(shares) == 6]
SHARES += [(600, 700, 3), (703, 0, 600)]
CHANGES = (step(0, 2), meet(0, 1, 3), count(0, 1), made(0, 1))

FULL = line([BEGIN, row(0, [0, 6, 0]), row(1, [3, 1, 2]), step(0, 1), told_sorted(0), over(0, 1), made(1, 1),
             count(1, 1), row(2, [5, 0, 1]), meet(0, 2, 3), told_sorted(3, 2), move(3, 0, 2, 1), step(2, 0), step(1, 0),
             made(0, 1, 0), count(3, 4), meet(0, 1, -1), BEGIN, made(3, 2, 1), count(0, 0)])
FULL_TOLD = line([[1, 0], [1, 3], [1, 3], [1, 1], [4, 3, 4, 2, 0], [1, 1], [4, 3, 7, 1, 5],
                  [1, 1], [1, 3], [1, 0], [3, 3, 4, 2], [1, 1], [1, 1], [1, -4],
                  [1, 0], [1, -1], [1, -1], [1, 0], [2, 1, 0], [1, 1]])


class Mixer:
    """Numbers that go to and fro, the same ones each time."""

    def __init__(self, seed):
        self.state = seed

    def below(self, n):
        self.state = (self.state * 6364136223846793005 + 1442695040888963407) % (1 << 64)
        return (self.state >> 33) % n

    def one_of(self, options):
        return options[self.below(len(options))]


def mixed_row_number(mixer):
    return mixer.one_of((0, 1, 2, 3) * 6 + (-1, -4, 4, LEAST, MOST))


def mixed_row(mixer):
    if mixer.below(2):
        return row(mixed_row_number(mixer), mixer.one_of(SHARES))
    n = mixer.one_of((0, 1, 2, 3, 3, 3, 3, 3, 3, 7, 12))
    greatest = mixer.one_of((1, 2, 3, 3, 4, 7, 1000, 1001))
    return row(mixed_row_number(mixer), [mixer.below(greatest + 1) for p in range(n)])


def mixed_call(mixer):
    i, j, k = [mixed_row_number(mixer) for number in range(3)]
    most = mixer.one_of((LEAST, -1, 0, 1, 2, 3, 11, 12, 13, MOST))
    p, q = [mixer.one_of((0, 1, 2, 0, 1, 2, 3, -1, MOST)) for number in range(2)]
    calls = [told_sorted(i, most), over(i, j), move(i, p, q, mixer.one_of((0, 1, 2, 3, 600, -1, MOST))),
             step(i, j), meet(i, j, k), count(i, j), made(i, j, most), mixed_row(mixer), mixed_row(mixer)]
    return mixer.one_of(calls) if mixer.below(50) else BEGIN


class Together(unittest.TestCase):
    def test_all_nine(self):
        self.assertEqual(answers(FULL), FULL_TOLD)

    def test_in_several_orders(self):
        orders = [CALLS[k:] + CALLS[:k] for k in range(9)] + [CALLS[k::-1] + CALLS[:k:-1] for k in range(9)]
        for order in orders:
            calls = [BEGIN] + ROWS + list(order)
            self.assertEqual(answers(line(calls)), model_answers(calls), order)

    def test_in_every_order_of_the_calls_that_change(self):
        changes = (move(0, 1, 0, 1), step(0, 1), step(1, 2), meet(0, 1, 1), meet(1, 2, 0), row(2, [1, 1, 4]))
        for order in itertools.permutations(changes):
            calls = [BEGIN] + ROWS + list(order) + [told_sorted(i) for i in range(4)]
            self.assertEqual(answers(line(calls)), model_answers(calls), order)

    def test_mixed_calls(self):
        kinds = set()
        for seed in range(60):
            mixer = Mixer(seed)
            calls = [BEGIN] + [mixed_call(mixer) for number in range(399)]
            told = answers(line(calls))
            wanted = model_answers(calls)
            kinds |= {(call[0], answer[0]) for call, answer in zip(calls, split(wanted)) if answer[0] <= 0}
            # Not assertEqual: its account of how two such long lists differ takes minutes.
            self.assertTrue(told == wanted, seed)
        for kind in ((1, -1), (2, -1), (3, -1), (4, -1), (4, -2), (5, -1), (5, -4), (5, 0), (6, -1), (6, -4), (7, -1),
                     (7, 0), (8, -1), (8, 0)):
            self.assertIn(kind, kinds)

    def test_begin_again_behind_each(self):
        for change in CHANGES:
            calls = ROWS + [change, BEGIN]
            self.assertEqual(ask(*calls)[-1], [0])
            self.assertEqual(all_rows(calls), [[0]] * 4)
            self.assertEqual(ask(*calls, step(0, 1), meet(2, 3, 0), count(1, 2), made(3, 0))[-4:],
                             [[0], [0], [1], [1, 0]])

    def test_each_behind_begin_alone(self):
        self.assertEqual([ask(change) for change in CHANGES], [[[0]], [[0]], [[1]], [[1, 0]]])

    def test_one_that_is_refused_stops_nothing(self):
        self.assertEqual(ask(row(0, [1, 2]), row(1, [3]), step(0, 1), meet(0, 1, 2), count(4, 0), made(0, -1),
                             step(9, 9), meet(0, 0, 9), told_sorted(0), told_sorted(2))[2:],
                         [[-4], [-4], [-1], [-1], [-1], [-1], [2, 2, 1], [1, 0]])


class TheListTogether(unittest.TestCase):
    def test_given_back_are_whole_numbers(self):
        self.assertEqual({type(number) for number in answers(FULL)}, {int})

    def test_handed_in_stays_as_it_was(self):
        calls = list(FULL)
        answers(calls)
        self.assertEqual(calls, FULL)

    def test_handed_in_is_not_changed_for_a_while_either(self):
        self.assertEqual(answers(Unchanging(FULL)), FULL_TOLD)

    def test_asking_twice(self):
        calls = list(FULL)
        self.assertEqual(answers(calls), FULL_TOLD)
        self.assertEqual(answers(calls), FULL_TOLD)

    def test_nothing_is_kept_from_another_list(self):
        for change in CHANGES:
            answers(line([BEGIN] + ROWS + [change]))
            self.assertEqual(answers(line([BEGIN] + [told_sorted(i) for i in range(4)])), [1, 0] + [2, 1, 0] * 4)
            self.assertEqual(answers(FULL), FULL_TOLD)

    def test_four_hundred_calls(self):
        twelve = [row(0, [1] * 12), made(0, 0), step(0, 0), meet(0, 0, 1), row(2, [3] * 6), count(2, 2)]
        calls = [BEGIN] + twelve * 66 + [over(0, 1), told_sorted(2), made(2, 2, 1)]
        told = ([1, 12] + [13, 12] + [1 << c for c in range(12)] + [1, 0] + [1, 0] + [1, 6] + [1, 297200]) * 66
        self.assertEqual(len(calls), 400)
        self.assertTrue(answers(line(calls)) == [1, 0] + told + [1, 3] + [7, 6] + [3] * 6 + [2, 6, 7])

    def test_four_hundred_of_each(self):
        for change, told in ((step(0, 0), [1, 0]), (meet(0, 1, 2), [1, 0]), (count(0, 1), [1, 1]),
                             (made(0, 1), [2, 1, 0])):
            self.assertTrue(answers(BEGIN + change * 399) == [1, 0] + told * 399)


if __name__ == "__main__":
    unittest.main()
