"""Four rows of whole numbers, and the calls on them."""

ROWS = 4
LONGEST = 12
GREATEST = 1000

BEGIN = 0
ROW = 1
SORTED = 2
OVER = 3
MOVE = 4

# How many numbers a call takes up, its own number among them; of ROW only those ahead of its list.
LENGTHS = {0: 1, 1: 3, 2: 3, 3: 3, 4: 5}

OUTSIDE = -1
TOO_MUCH = -2


def greatest_first(row):
    return sorted(row, reverse=True)


def is_over(first, second):
    if len(first) != len(second) or sum(first) != sum(second):
        return False
    lead = 0
    for mine, other in zip(greatest_first(first), greatest_first(second)):
        lead = lead + mine - other
        if lead < 0:
            return False
    return True


def is_row_number(i):
    return 0 <= i < ROWS


def is_place(row, p):
    return 0 <= p < len(row)


def is_row(numbers):
    return 1 <= len(numbers) <= LONGEST and max(numbers) <= GREATEST


def may_take(row, p, q, a):
    return is_place(row, p) and is_place(row, q) and p != q and 0 <= a <= row[p]


def first_of(told, most):
    if 1 <= most <= LONGEST:
        return told[:most]
    return []


def new_rows():
    return [[0] for i in range(ROWS)]


# What a call leaves for later ones is kept in an object made anew for each list, so that nothing outlasts the list.
class FourRows:
    def __init__(self):
        self.rows = new_rows()

    def begin(self):
        self.rows = new_rows()
        return [0]

    def put(self, i, numbers):
        if not is_row_number(i) or not is_row(numbers):
            return [OUTSIDE]
        self.rows[i] = list(numbers)
        return [len(numbers)]

    def tell_sorted(self, i, most):
        if not is_row_number(i):
            return [OUTSIDE]
        row = self.rows[i]
        return [len(row)] + first_of(greatest_first(row), most)

    def compare(self, i, j):
        if not is_row_number(i) or not is_row_number(j):
            return [OUTSIDE]
        first = 1 if is_over(self.rows[i], self.rows[j]) else 0
        second = 2 if is_over(self.rows[j], self.rows[i]) else 0
        return [first + second]

    def move(self, i, p, q, a):
        if not is_row_number(i) or not may_take(self.rows[i], p, q, a):
            return [OUTSIDE]
        before = self.rows[i]
        if before[q] + a > GREATEST:
            return [TOO_MUCH]
        after = list(before)
        after[p] = before[p] - a
        after[q] = before[q] + a
        self.rows[i] = after
        return [1 if is_over(before, after) else 0]


def end_of_call(calls, start):
    number = calls[start]
    end = start + LENGTHS[number]
    if number == ROW:
        return end + calls[end - 1]
    return end


def answer_call(held, call):
    number = call[0]
    if number == BEGIN:
        return held.begin()
    if number == ROW:
        return held.put(call[1], call[LENGTHS[ROW]:])
    if number == SORTED:
        return held.tell_sorted(call[1], call[2])
    if number == OVER:
        return held.compare(call[1], call[2])
    return held.move(call[1], call[2], call[3], call[4])


def answers(calls):
    held = FourRows()
    told = []
    start = 0
    while start < len(calls):
        end = end_of_call(calls, start)
        answer = answer_call(held, calls[start:end])
        told.append(len(answer))
        told.extend(answer)
        start = end
    return told
