"""[14], with [2] and [3]: fractions and totals."""

import random
from fractions import Fraction

from tests.oracle import pair
from tests.support import BIG, Case, strange_values
from thinspans.errors import NotUsable
from thinspans.fractions import is_less, made, minus, over, plus, times, total_of
from thinspans.kinds import is_integer

INTEGER, ZERO, MANY = NotUsable('integer', -1), NotUsable('zero', -1), NotUsable('many', -1)


def sample():
    chance = random.Random(14)
    found = [Fraction(0), Fraction(1), Fraction(-1), Fraction(BIG), Fraction(-BIG, BIG + 1), Fraction(1, BIG)]
    found += [Fraction(chance.randint(-12, 12), chance.randint(1, 12)) for _ in range(20)]
    return found + [Fraction(chance.randint(-BIG, BIG), chance.randint(1, BIG)) for _ in range(5)]


class Fractions(Case):

    def test_example(self):
        self.gives((-1, 2), made, 2, -4)
        self.gives((5, 6), plus, (1, 2), (1, 3))
        self.gives((-3, 4), over, (1, 2), (-2, 3))

    def test_made(self):
        for p, q, wanted in [(0, 5, (0, 1)), (0, -5, (0, 1)), (-6, -4, (3, 2)), (6, -4, (-3, 2)), (-6, 4, (-3, 2)),
                             (7, 1, (7, 1)), (BIG, -BIG, (-1, 1)), (3 * BIG, 6, (BIG, 2)), (12, 12, (1, 1)),
                             (-BIG, 1, (-BIG, 1)), (1, -1, (-1, 1))]:
            self.gives(wanted, made, p, q)

    def test_made_of_other_values(self):
        for thing in strange_values():
            if not is_integer(thing):
                for other in (0, 1, -4, thing):
                    self.fails(INTEGER, made, thing, other)
                    self.fails(INTEGER, made, other, thing)
        for p in (0, 1, -1, BIG, -BIG):
            self.fails(ZERO, made, p, 0)
        self.fails(INTEGER, made, True, 1)
        self.fails(INTEGER, made, 1, True)
        self.fails(INTEGER, made, 1, False)

    def test_against_exact_fractions(self):
        for one in sample():
            for other in sample():
                left, right = pair(one), pair(other)
                self.gives(pair(one + other), plus, left, right)
                self.gives(pair(one - other), minus, left, right)
                self.gives(pair(one * other), times, left, right)
                self.gives(one < other, is_less, left, right)
                if other:
                    self.gives(pair(one / other), over, left, right)
                else:
                    self.fails(ZERO, over, left, right)

    def test_total(self):
        self.gives(0, total_of, (), ())
        self.gives(1, total_of, (1, 0, -1), (4, 5, 3))
        self.gives(-BIG * BIG + 6, total_of, (BIG, 2), (-BIG, 3))
        self.gives(9, total_of, (1, 1, 0), (4, 5, 6))
        self.gives(0, total_of, (0, 0), (BIG, -BIG))
        self.gives(BIG, total_of, (1,), (BIG,))

    def test_total_of_other_lengths(self):
        for question, crowd in [((), (1,)), ((1,), ()), ((1, 2), (1, 2, 3)), ((1, 2, 3), (1, 2)), ((0,), (0, 0))]:
            self.fails(MANY, total_of, question, crowd)
