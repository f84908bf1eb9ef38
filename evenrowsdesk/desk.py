"""Four rows of whole numbers, and the calls on them."""

ROWS = 4
LONGEST = 12
GREATEST = 1000
LONGEST_COUNTED = 6
GREATEST_COUNTED = 6

BEGIN = 0
ROW = 1
SORTED = 2
OVER = 3
MOVE = 4
STEP = 5
MEET = 6
COUNT = 7

# How many numbers a call takes up, its own number among them; of ROW only those ahead of its list.
LENGTHS = {0: 1, 1: 3, 2: 3, 3: 3, 4: 5, 5: 3, 6: 4, 7: 3, 8: 4}

OUTSIDE = -1
TOO_MUCH = -2
NO_MATCH = -4


def greatest_first(row):
    return sorted(row, reverse=True)


def are_comparable(first, second):
    return len(first) == len(second) and sum(first) == sum(second)


def is_over(first, second):
    if not are_comparable(first, second):
        return False
    lead = 0
    for mine, other in zip(greatest_first(first), greatest_first(second)):
        lead = lead + mine - other
        if lead < 0:
            return False
    return True


def is_row_number(i):
    return 0 <= i < ROWS


def are_row_numbers(i, j):
    return is_row_number(i) and is_row_number(j)


def is_place(row, p):
    return 0 <= p < len(row)


def is_row(numbers):
    return 1 <= len(numbers) <= LONGEST and max(numbers) <= GREATEST


def may_take(row, p, q, a):
    return is_place(row, p) and is_place(row, q) and p != q and 0 <= a <= row[p]


def with_moved(row, p, q, a):
    after = list(row)
    after[p] = row[p] - a
    after[q] = row[q] + a
    return after


# Both are sorted and x is over y; so wherever they differ, some place has less behind one that has more.
def step_towards(x, y):
    less = [p for p in range(len(x)) if x[p] < y[p]]
    if less == []:
        return x
    more = [p for p in range(less[-1]) if x[p] > y[p]]
    giver = more[-1]
    taker = [p for p in less if p > giver][0]
    return with_moved(x, giver, taker, min(x[giver] - y[giver], y[taker] - x[taker]))


def where_they_meet(first, second):
    met = []
    first_sum = 0
    second_sum = 0
    for mine, other in zip(greatest_first(first), greatest_first(second)):
        before = min(first_sum, second_sum)
        first_sum = first_sum + mine
        second_sum = second_sum + other
        met.append(min(first_sum, second_sum) - before)
    return met


def is_countable(row):
    return len(row) <= LONGEST_COUNTED and max(row) <= GREATEST_COUNTED


def entries_of(bits, columns):
    return [(bits >> c) & 1 for c in range(columns)]


def lines_with(ones, lines):
    return [entries for entries in lines if sum(entries) == ones]


# Columns that want the same in another order have as many tables, so one sorted tuple stands for all of them.
def ways_behind(ways, lines):
    behind = {}
    for wants in ways:
        for entries in lines:
            left = tuple(sorted([want - entry for want, entry in zip(wants, entries)]))
            if left[0] >= 0:
                behind[left] = behind.get(left, 0) + ways[wants]
    return behind


def count_tables(line_sums, column_sums):
    columns = len(column_sums)
    lines = [entries_of(bits, columns) for bits in range(1 << columns)]
    ways = {tuple(sorted(column_sums)): 1}
    for ones in line_sums:
        ways = ways_behind(ways, lines_with(ones, lines))
    return ways.get(tuple([0] * columns), 0)


# The columns come in their order and sorting keeps it among those that want alike, so the first of these is taken.
def neediest(wants, ones):
    return sorted(range(len(wants)), key=lambda c: -wants[c])[:ones]


def make_table(line_sums, column_sums):
    table = []
    wants = list(column_sums)
    for ones in line_sums:
        chosen = neediest(wants, ones)
        entries = [1 if c in chosen else 0 for c in range(len(wants))]
        wants = [max(0, want - entry) for want, entry in zip(wants, entries)]
        table.append(entries)
    return table


def column_sum(table, c):
    return sum([entries[c] for entries in table])


def has_sums(table, line_sums, column_sums):
    if [sum(entries) for entries in table] != line_sums:
        return False
    return [column_sum(table, c) for c in range(len(column_sums))] == column_sums


def as_number(entries):
    return sum([entry << c for c, entry in enumerate(entries)])


def first_of(told, most):
    if 1 <= most <= LONGEST:
        return told[:most]
    return []


def new_rows():
    return [[0] for i in range(ROWS)]


# What a call leaves for later ones is kept in an object made anew for each list, so that nothing outlasts the list.
class FourRows:
    def __init__(self):
        self.rows = new_rows()

    def begin(self):
        self.rows = new_rows()
        return [0]

    def put(self, i, numbers):
        if not is_row_number(i) or not is_row(numbers):
            return [OUTSIDE]
        self.rows[i] = list(numbers)
        return [len(numbers)]

    def tell_sorted(self, i, most):
        if not is_row_number(i):
            return [OUTSIDE]
        row = self.rows[i]
        return [len(row)] + first_of(greatest_first(row), most)

    def compare(self, i, j):
        if not are_row_numbers(i, j):
            return [OUTSIDE]
        first = 1 if is_over(self.rows[i], self.rows[j]) else 0
        second = 2 if is_over(self.rows[j], self.rows[i]) else 0
        return [first + second]

    def move(self, i, p, q, a):
        if not is_row_number(i) or not may_take(self.rows[i], p, q, a):
            return [OUTSIDE]
        before = self.rows[i]
        if before[q] + a > GREATEST:
            return [TOO_MUCH]
        after = with_moved(before, p, q, a)
        self.rows[i] = after
        return [1 if is_over(before, after) else 0]

    def take_step(self, i, j):
        if not are_row_numbers(i, j):
            return [OUTSIDE]
        if not is_over(self.rows[i], self.rows[j]):
            return [NO_MATCH]
        before = greatest_first(self.rows[i])
        goal = greatest_first(self.rows[j])
        self.rows[i] = step_towards(before, goal)
        return [0 if before == goal else 1]

    def meet(self, i, j, k):
        if not are_row_numbers(i, j) or not is_row_number(k):
            return [OUTSIDE]
        if not are_comparable(self.rows[i], self.rows[j]):
            return [NO_MATCH]
        self.rows[k] = where_they_meet(self.rows[i], self.rows[j])
        return [0]

    def tell_count(self, i, j):
        if not are_row_numbers(i, j) or not is_countable(self.rows[i]) or not is_countable(self.rows[j]):
            return [OUTSIDE]
        return [count_tables(self.rows[i], self.rows[j])]

    def tell_made(self, i, j, most):
        if not are_row_numbers(i, j):
            return [OUTSIDE]
        table = make_table(self.rows[i], self.rows[j])
        if not has_sums(table, self.rows[i], self.rows[j]):
            return [0]
        return [len(table)] + first_of([as_number(entries) for entries in table], most)


def end_of_call(calls, start):
    number = calls[start]
    end = start + LENGTHS[number]
    if number == ROW:
        return end + calls[end - 1]
    return end


def answer_call(held, call):
    number = call[0]
    if number == BEGIN:
        return held.begin()
    if number == ROW:
        return held.put(call[1], call[LENGTHS[ROW]:])
    if number == SORTED:
        return held.tell_sorted(call[1], call[2])
    if number == OVER:
        return held.compare(call[1], call[2])
    if number == MOVE:
        return held.move(call[1], call[2], call[3], call[4])
    if number == STEP:
        return held.take_step(call[1], call[2])
    if number == MEET:
        return held.meet(call[1], call[2], call[3])
    if number == COUNT:
        return held.tell_count(call[1], call[2])
    return held.tell_made(call[1], call[2], call[3])


def answers(calls):
    held = FourRows()
    told = []
    start = 0
    while start < len(calls):
        end = end_of_call(calls, start)
        answer = answer_call(held, calls[start:end])
        told.append(len(answer))
        told.extend(answer)
        start = end
    return told
