"""Facing runs of posts, and the minors of a table for them."""

from rimread.fractions import NOUGHT, less, minus
from rimread.grids import determinant


# All lists of so many numbers from the first ones on, rising.
def rising_lists(numbers, count):
    lists = [[]]
    for number in numbers:
        lists = lists + [chosen + [number] for chosen in lists if len(chosen) < count]
    return [chosen for chosen in lists if len(chosen) == count]


# Of numbers that rise, as many in P as in Q. Going round sunwise P may begin with the first number, or with
# one of the last, so that the first one comes into it still.
def runs_with_least_ahead(numbers):
    count = len(numbers) // 2
    runs = []
    for turn in range(count):
        start = (len(numbers) - turn) % len(numbers)
        around = numbers[start:] + numbers[:start]
        runs.append((around[:count], list(reversed(around[count:]))))
    return runs


def facing_runs(n):
    runs = []
    for count in range(1, n // 2 + 1):
        alike = []
        for numbers in rising_lists(list(range(n)), 2 * count):
            alike.extend(runs_with_least_ahead(numbers))
        runs.extend(sorted(alike))
    return runs


def grid_part(table, rows, columns):
    return [[table[i][j] for j in columns] for i in rows]


def minor_of(table, P, Q):
    found = determinant(grid_part(table, P, Q))
    return found if len(P) % 2 == 0 else minus(NOUGHT, found)


# Told is a tuple (P, Q), the first one whose minor has the wrong sign, or None.
def runs_below_nought(table):
    for P, Q in facing_runs(len(table)):
        if less(minor_of(table, P, Q), NOUGHT):
            return (P, Q)
    return None
