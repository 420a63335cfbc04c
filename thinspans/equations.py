"""Linear equations, solved exactly: rows of fractions, worked on as rows of integers."""

from math import gcd, lcm

from thinspans.fractions import ONE, ZERO, made


def whole_row(row):
    """The fractions of a row, all times one number above 0, as integers without a common divisor."""
    common = 1
    for fraction in row:
        common = lcm(common, fraction[1])
    return without_divisor([p * (common // q) for p, q in row])


def without_divisor(row):
    common = 0
    for integer in row:
        common = gcd(common, integer)
    if common < 2:
        return row
    return [integer // common for integer in row]


def cleared(row, pivot, column):
    """The row, with 0 in the column by means of the pivot."""
    if row[column] == 0:
        return row
    return without_divisor([pivot[column] * one - row[column] * other for one, other in zip(row, pivot)])


def eliminated(rows, many):
    """Solves rows of integers for the first many columns, as far as they go.

    Returns the columns solved for, for each a row in which the others of them are 0,
    and the rows that are left, with 0 in all these columns.
    """
    columns = []
    base = []
    left = rows
    for column in range(many):
        places = [k for k, row in enumerate(left) if row[column] != 0]
        if places:
            pivot = left[places[0]]
            rest = left[:places[0]] + left[places[0] + 1:]
            base = [cleared(row, pivot, column) for row in base] + [pivot]
            left = [cleared(row, pivot, column) for row in rest]
            columns.append(column)
    return columns, base, left


def rank_of(rows, many):
    return len(pivot_columns(rows, many))


def pivot_columns(rows, many):
    """The columns, as few and as early as possible, of which the other ones are sums of fractions."""
    return eliminated([whole_row(row) for row in rows], many)[0]


def solution(rows, many):
    """Any fractions that, times the first many of each row, give the last of it; None if there are none."""
    columns, base, left = eliminated([whole_row(row) for row in rows], many)
    if any([row[many] != 0 for row in left]):
        return None
    found = [ZERO for _ in range(many)]
    for column, row in zip(columns, base):
        found[column] = made(row[many], row[column])
    return found


def null_base(rows, many):
    """Tuples of integers, as few as possible, of which all that give 0 with each row are sums of fractions."""
    columns, base, _ = eliminated([whole_row(row) for row in rows], many)
    free = [column for column in range(many) if column not in columns]
    return [null_row(columns, base, many, column) for column in free]


def null_row(columns, base, many, free):
    """The integers that give 0 with each row of the base, those of the other free columns being 0."""
    found = [ZERO for _ in range(many)]
    found[free] = ONE
    for column, row in zip(columns, base):
        found[column] = made(-row[free], row[column])
    return tuple(whole_row(found))
