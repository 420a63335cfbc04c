"""Linear equations, solved exactly by fractions of at least 0, or a reason why they are not.

A tableau has a row of integers for each equation: its parts, how often each equation is in the row,
and its total, which is never below 0.
"""

from math import lcm

from thinspans.equations import cleared, without_divisor
from thinspans.fractions import ZERO, made


def nonnegative_solution(rows, many):
    """Any fractions of at least 0 that, times the first many of each row, give the last of it.

    Returns the pair of these and None; if there are none, the pair of None and an integer for
    each row: the sum of the integers times the rows is at least 0 in each of the first many
    columns, and below 0 in the last one.
    """
    tableau = [marked_row(row, k, len(rows), many) for k, row in enumerate(rows)]
    # What the rows still lack in all, below 0; each step takes in a column that makes it no less.
    lack = [-sum([row[at] for row in tableau]) for at in range(many + len(rows) + 1)]
    # At first no row is solved for a column; the numbers from many on stand for its own lack.
    base = [many + k for k in range(len(rows))]
    column = first_below_zero(lack, many)
    while column is not None:
        place = place_to_leave(tableau, base, column)
        pivot = tableau[place]
        tableau = [row if k == place else cleared(row, pivot, column) for k, row in enumerate(tableau)]
        lack = cleared(lack, pivot, column)
        base[place] = column
        column = first_below_zero(lack, many)
    if lack[-1] < 0:
        return None, without_divisor(lack[many:-1])
    return solved_parts(tableau, base, many), None


def marked_row(row, k, height, many):
    """The row of the tableau of equation k, out of so many."""
    scale = 1
    for _, q in row:
        scale = lcm(scale, q)
    if row[many][0] < 0:
        scale = -scale
    whole = [p * scale // q for p, q in row]
    return whole[:many] + [scale if n == k else 0 for n in range(height)] + whole[many:]


def first_below_zero(lack, many):
    """The first column to take in, or None. With the choice of the least one, no step ever comes again."""
    for column in range(many):
        if lack[column] < 0:
            return column
    return None


def place_to_leave(tableau, base, column):
    """The row that bounds the column the most, the one with the least column of the base among equals."""
    best = None
    for k, row in enumerate(tableau):
        if row[column] > 0 and (best is None or is_tighter(tableau, base, column, k, best)):
            best = k
    return best


def is_tighter(tableau, base, column, k, best):
    one = tableau[k][-1] * tableau[best][column]
    other = tableau[best][-1] * tableau[k][column]
    return one < other or (one == other and base[k] < base[best])


def solved_parts(tableau, base, many):
    parts = [ZERO for _ in range(many)]
    for row, column in zip(tableau, base):
        if column < many:
            parts[column] = made(row[-1], row[column])
    return parts
