"""Four rows kept by the document's words, to be asked the same calls as the program."""

from tests.by_words import made_by_words, meet_by_definition, over_by_definition, step_by_words, tables_by_sums


def greatest_first(numbers):
    return sorted(numbers, reverse=True)


def alike(first, second):
    return len(first) == len(second) and sum(first) == sum(second)


class Model:
    def __init__(self):
        self.begin()

    def begin(self):
        self.rows = {i: [0] for i in range(4)}
        return [0]

    def row(self, i, n, *numbers):
        if i not in self.rows or n not in range(1, 13) or max(numbers) > 1000:
            return [-1]
        self.rows[i] = list(numbers)
        return [n]

    def sorted(self, i, most):
        if i not in self.rows:
            return [-1]
        told = greatest_first(self.rows[i])
        return [len(told)] + (told[:most] if most in range(1, 13) else [])

    def over(self, i, j):
        if i not in self.rows or j not in self.rows:
            return [-1]
        return [over_by_definition(self.rows[i], self.rows[j]) + 2 * over_by_definition(self.rows[j], self.rows[i])]

    def move(self, i, p, q, a):
        if i not in self.rows:
            return [-1]
        before = self.rows[i]
        places = range(len(before))
        if p not in places or q not in places or p == q or a not in range(before[p] + 1):
            return [-1]
        after = list(before)
        after[p] -= a
        after[q] += a
        if after[q] > 1000:
            return [-2]
        self.rows[i] = after
        return [int(over_by_definition(before, after))]

    def step(self, i, j):
        if i not in self.rows or j not in self.rows:
            return [-1]
        if not over_by_definition(self.rows[i], self.rows[j]):
            return [-4]
        before = greatest_first(self.rows[i])
        after = step_by_words(before, greatest_first(self.rows[j]))
        self.rows[i] = before if after is None else after
        return [0 if after is None else 1]

    def meet(self, i, j, k):
        if not {i, j, k} <= set(self.rows):
            return [-1]
        if not alike(self.rows[i], self.rows[j]):
            return [-4]
        self.rows[k] = meet_by_definition(self.rows[i], self.rows[j])
        return [0]

    def count(self, i, j):
        if i not in self.rows or j not in self.rows:
            return [-1]
        first, second = tuple(self.rows[i]), tuple(self.rows[j])
        if max(len(first), len(second), *first, *second) > 6:
            return [-1]
        return [tables_by_sums(len(first), len(second))[first, second]]

    def made(self, i, j, most):
        if i not in self.rows or j not in self.rows:
            return [-1]
        lines = made_by_words(self.rows[i], self.rows[j])
        if lines is None:
            return [0]
        return [len(lines)] + (lines[:most] if most in range(1, 13) else [])

    def answer(self, call):
        names = ("begin", "row", "sorted", "over", "move", "step", "meet", "count", "made")
        return getattr(self, names[call[0]])(*call[1:])


def model_answers(calls):
    """What is to be answered to calls that are a list each."""
    model = Model()
    told = []
    for call in calls:
        answer = model.answer(call)
        told += [len(answer)] + answer
    return told
