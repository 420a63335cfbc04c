"""Exact fractions, as pairs (p, q) of integers without a common divisor, q from 1 on."""

from math import gcd

from thinspans.errors import NotUsable
from thinspans.kinds import is_integer

ZERO = (0, 1)
ONE = (1, 1)


def made(p, q):
    """The fraction p / q."""
    if not is_integer(p) or not is_integer(q):
        raise NotUsable("integer", -1)
    if q == 0:
        raise NotUsable("zero", -1)
    return reduced_pair(p, q)


def reduced_pair(p, q):
    common = gcd(p, q)
    if q < 0:
        common = -common
    return (p // common, q // common)


def plus(one, other):
    return reduced_pair(one[0] * other[1] + other[0] * one[1], one[1] * other[1])


def minus(one, other):
    return reduced_pair(one[0] * other[1] - other[0] * one[1], one[1] * other[1])


def times(one, other):
    return reduced_pair(one[0] * other[0], one[1] * other[1])


def over(one, other):
    if other[0] == 0:
        raise NotUsable("zero", -1)
    return reduced_pair(one[0] * other[1], one[1] * other[0])


def is_less(one, other):
    return one[0] * other[1] < other[0] * one[1]


def total_of(question, crowd):
    """The total of the question in the crowd."""
    if len(question) != len(crowd):
        raise NotUsable("many", -1)
    return sum([integer * number for integer, number in zip(question, crowd)])


def whole_fractions(integers):
    """The list of the integers as fractions."""
    return [(integer, 1) for integer in integers]


def sum_of(fractions):
    """The sum of a list of fractions."""
    total = ZERO
    for fraction in fractions:
        total = plus(total, fraction)
    return total


def dot(left, right):
    """The sum of the products of two equally long lists of fractions."""
    return sum_of([times(one, other) for one, other in zip(left, right) if one[0] != 0 and other[0] != 0])
