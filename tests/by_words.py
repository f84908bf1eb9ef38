"""The document's words, followed as plainly as can be: what the program's answers are held against."""

import collections
import functools
import itertools


def most_of(numbers, k):
    return max(sum(some) for some in itertools.combinations(numbers, k))


def over_by_definition(first, second):
    return (len(first) == len(second) and sum(first) == sum(second)
            and all(most_of(first, k) >= most_of(second, k) for k in range(1, len(first) + 1)))


def step_by_words(x, y):
    """The sorted row x, a step further towards the sorted row y; None where there's no step."""
    places = range(len(x))
    givers = [j for j in places if x[j] > y[j] and any(x[k] < y[k] for k in places if k > j)]
    if not givers:
        return None
    j = max(givers)
    k = min(k for k in places if k > j and x[k] < y[k])
    amount = min(x[j] - y[j], y[k] - x[k])
    return [number - amount if p == j else number + amount if p == k else number for p, number in enumerate(x)]


def meet_by_definition(first, second):
    sums = [min(most_of(first, k), most_of(second, k)) for k in range(len(first) + 1)]
    return [later - earlier for earlier, later in zip(sums, sums[1:])]


@functools.cache
def tables_by_sums(lines, columns):
    """How many tables of so many lines and columns have these line sums and these column sums."""
    table_counts = collections.Counter()
    for table in itertools.product(itertools.product((0, 1), repeat=columns), repeat=lines):
        table_counts[tuple(map(sum, table)), tuple(map(sum, zip(*table)))] += 1
    return table_counts


def made_by_words(first, second):
    """The table's lines as numbers; None where it hasn't the sums it ought to."""
    wants = list(second)
    given = [0] * len(second)
    lines = []
    for ones in first:
        free = list(range(len(second)))
        number = 0
        while free and number.bit_count() < ones:
            column = max(free, key=lambda c: (wants[c], -c))
            free.remove(column)
            number |= 1 << column
            given[column] += 1
        wants = [max(0, want - (number >> c & 1)) for c, want in enumerate(wants)]
        lines.append(number)
    if [number.bit_count() for number in lines] != list(first) or given != list(second):
        return None
    return lines
