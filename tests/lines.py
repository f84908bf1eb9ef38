"""Calls as lists of numbers, and the answers taken apart again."""

from evenrowsdesk.desk import answers

LEAST = -2147483648
MOST = 2147483647
OUTSIDE = (-1, 4, LEAST, MOST)

BEGIN = [0]


def row(i, numbers):
    return [1, i, len(numbers)] + list(numbers)


def told_sorted(i, most=12):
    return [2, i, most]


def over(i, j):
    return [3, i, j]


def move(i, p, q, a):
    return [4, i, p, q, a]


def step(i, j):
    return [5, i, j]


def meet(i, j, k):
    return [6, i, j, k]


def count(i, j):
    return [7, i, j]


def made(i, j, most=12):
    return [8, i, j, most]


def line(calls):
    return [number for call in calls for number in call]


def split(told):
    parts = []
    start = 0
    while start < len(told):
        end = start + 1 + told[start]
        assert start < end <= len(told), told
        parts.append(told[start + 1:end])
        start = end
    return parts


def ask(*calls):
    """The answer to each call behind a begin."""
    parts = split(answers(line([BEGIN] + list(calls))))
    assert len(parts) == len(calls) + 1, parts
    assert parts[0] == [0], parts
    return parts[1:]


def last(*calls):
    return ask(*calls)[-1]


def number_at(calls, i, p, q):
    """What is at place p: the most that a move lets be taken from it."""
    low, high = 0, 1000
    while low < high:
        middle = (low + high + 1) // 2
        if last(*calls, move(i, p, q, middle)) == [-1]:
            high = middle - 1
        else:
            low = middle
    return low


def in_order(calls, i):
    """Row i as it stands behind these calls, in its own order."""
    told = last(*calls, told_sorted(i))
    if told[0] == 1:
        return told[1:]
    return [number_at(calls, i, p, (p + 1) % told[0]) for p in range(told[0])]


def all_rows(calls):
    return [in_order(calls, i) for i in range(4)]
