"""[47] and [48], with [8]; "Consequences [48]", and [9] (T4)."""

import random
from fractions import Fraction

from tests import oracle
from tests.support import (
    ALONE, BIG, FINE, KINDS, NO_QUESTIONS, RULES, WRONG, Case, questions, random_kinds, random_rules, setups, strange_values)
from thinspans.asking import is_told, tells, weights_for
from thinspans.averages import expected
from thinspans.errors import NotTold, NotUsable
from thinspans.kinds import is_fraction
from thinspans.sighting import all_sights, can_be_unseen
from thinspans.spreading import least_weights, spread

QUESTION, CROWD, WEIGHTS = NotUsable('question', -1), NotUsable('crowd', -1), NotUsable('weights', -1)
ONLY, LOST = (('top', ALONE),), (('lost', (('pay', 1, ()),)),)
FULL = (('top', WRONG),)
EVEN, ODD = ((LOST, (1, 1)), (FULL, (1, 1))), ((LOST, (2, 1)),)
NO_CROWDS = NO_QUESTIONS + [(1, 2, -1), (-BIG, 0, 0)]
NO_WEIGHTS = [0, [], [(LOST, (1, 1))], ((FULL, (1, 1)), (LOST, (1, 1))), ((LOST, (1, 1)), (LOST, (1, 1))), ((LOST, (0, 1)),),
              ((LOST, (2, 4)),), (((), (1, 1)),), (((('top', FINE),), (1, 1)),), ((LOST, (True, 1)),), (LOST, (1, 1)),
              (((('lost', (('pay', True, ()),)),), (1, 1)),), ((LOST, (1, 1), 0),), (None,)]


def random_weights(chance, kinds, rules):
    return tuple((sight, oracle.pair(Fraction(chance.choice([-7, -1, 1, 3, 8]), chance.randint(1, 9))))
                 for sight in all_sights(kinds, rules) if chance.random() < 0.7)


def null_weights(rows):
    """For each sight a list of weights that tell the question of zeros, such that all are sums of these."""
    columns = oracle.transposed(rows)
    base = []
    for place, column in enumerate(columns):
        if oracle.rank([columns[k] for k in base] + [column]) > len(base):
            base.append(place)
    found = []
    for place, column in enumerate(columns):
        if place not in base:
            parts = solved([columns[k] for k in base], column)
            weights = [Fraction(0)] * len(columns)
            weights[place] = Fraction(-1)
            for k, part in zip(base, parts):
                weights[k] = part
            found.append(weights)
    return found


def solved(columns, wanted):
    """How often each of the independent columns is in the wanted one."""
    rows = [list(map(Fraction, row)) + [Fraction(last)] for row, last in zip(oracle.transposed(columns), wanted)]
    for column in range(len(columns)):
        place = next(k for k in range(column, len(rows)) if rows[k][column])
        rows[column], rows[place] = rows[place], rows[column]
        rows[column] = [entry / rows[column][column] for entry in rows[column]]
        for k, row in enumerate(rows):
            if k != column:
                rows[k] = [a - row[column] * b for a, b in zip(row, rows[column])]
    return [row[-1] for row in rows[:len(columns)]]


class Spread(Case):

    def test_example(self):
        self.gives((0, 1), spread, KINDS, RULES, EVEN, (0, 0, 3))
        self.gives((3, 1), spread, KINDS, RULES, ODD, (0, 0, 3))

    def test_by_hand(self):
        self.gives((0, 1), spread, KINDS, RULES, (), (1, 2, 3))
        self.gives((0, 1), spread, KINDS, RULES, ODD, (0, 0, 0))
        self.gives((0, 1), spread, KINDS, RULES, ODD, (7, 99, 0))
        # ALONE is seen half the time, with the weight 2: 4 / 2 - 1 for each trace.
        self.gives((5, 1), spread, KINDS, RULES, ((ONLY, (2, 1)),), (2, 3, 9))
        self.gives((11, 1), spread, KINDS, RULES, ((LOST, (2, 1)), (ONLY, (2, 1))), (5, 3, 3))
        self.gives((9 * BIG, 16), spread, KINDS, RULES, ((LOST, (1, 1)), (FULL, (-1, 2))), (0, 0, BIG))
        self.gives((BIG * BIG, 4), spread, KINDS, RULES, ((ONLY, (-BIG, 1)),), (1, 0, 4))
        self.gives((2, 9), spread, (ALONE,), (('front', ('own', 4, 6)),), ((ONLY, (1, 1)),), (1,))

    def test_as_defined(self):
        for chance, kinds, rules in setups(47, 80):
            weights = random_weights(chance, kinds, rules)
            crowd = tuple(chance.choice([0, 1, 5, 99, 10 ** 30]) for _ in kinds)
            wanted = oracle.spread_of(kinds, rules, weights, crowd)
            self.gives(oracle.pair(wanted), spread, kinds, rules, weights, crowd)
            self.assertGreaterEqual(wanted, 0)
            self.gives(oracle.pair(7 * wanted), spread, kinds, rules, weights, tuple(7 * number for number in crowd))

    def test_wrong_values(self):
        for thing in strange_values() + NO_WEIGHTS:
            self.fails(WEIGHTS, spread, KINDS, RULES, thing, (1, 2, 3))
            # The weights come ahead of the crowd.
            self.fails(WEIGHTS, spread, KINDS, RULES, thing, thing)
        for thing in strange_values() + NO_CROWDS:
            self.fails(CROWD, spread, KINDS, RULES, EVEN, thing)
            self.fails(CROWD, spread, KINDS, RULES, (), thing)
            self.fails(WEIGHTS, spread, KINDS, RULES, NO_WEIGHTS[2], thing)


class LeastWeights(Case):

    def least(self, kinds, rules, question, crowd):
        """That the weights tell the question and have multipliers, and that no other ones have a lesser spread."""
        result = least_weights(kinds, rules, question, crowd)
        self.gives(result, least_weights, kinds, rules, question, crowd)
        self.assertTrue(type(result) is tuple and len(result) == 2)
        weights, multipliers = result
        self.gives(tuple((integer, 1) for integer in question), tells, kinds, rules, weights)
        self.assertTrue(type(multipliers) is tuple and len(multipliers) == len(kinds))
        self.assertTrue(all(is_fraction(part) for part in multipliers))
        rows = oracle.chance_rows(kinds, rules)
        known = dict(weights)
        along = [Fraction(*known.get(sight, (0, 1))) for sight in oracle.seen_sights(kinds, rules)]
        often = [sum(number * part for number, part in zip(crowd, column)) for column in oracle.transposed(rows)]
        for weight, many, column in zip(along, often, oracle.transposed(rows)):
            self.assertEqual(weight * many, sum(Fraction(*part) * entry for part, entry in zip(multipliers, column)))
        # The spread does not change along weights that tell nothing, and it is convex.
        for other in null_weights(rows):
            self.assertEqual(0, sum(many * one * two for many, one, two in zip(often, along, other)))
        return result

    def test_example(self):
        self.assertEqual(EVEN, self.least(KINDS, RULES, (0, 0, 1), (1, 1, 1))[0])
        self.fails(NotTold((1, 0, 0)), least_weights, KINDS, RULES, (1, 0, 0), (1, 1, 1))

    def test_by_hand(self):
        self.assertEqual(((ONLY, (2, 1)),), self.least(KINDS, RULES, (1, 1, 0), (1, 5, 2))[0])
        self.assertEqual((), self.least(KINDS, RULES, (0, 0, 0), (1, 1, 1))[0])
        self.gives(((), ((0, 1), (0, 1), (0, 1))), least_weights, KINDS, RULES, (0, 0, 0), (0, 0, 1))
        # If FINE is in the crowd and ALONE is not, FULL and LOST still tell WRONG best by weights of 1.
        self.assertEqual(((LOST, (-5, 1)), (FULL, (-5, 1))), self.least(KINDS, RULES, (0, 0, -5), (0, 4, 99))[0])
        never = (('front', ('never',)), ('pay', ('caller',)))
        self.gives(((), ((0, 1), (0, 1), (0, 1))), least_weights, KINDS, never, (0, 0, 0), (1, 2, 3))
        self.fails(NotTold((0, 0, 1)), least_weights, KINDS, never, (0, 0, 1), (1, 2, 3))

    def test_two_sights_of_two_kinds(self):
        # ALONE is seen alone for certain; FINE looks so in half of all cases.
        kinds, rules = (ALONE, FINE), (('front', ('own', 1, 1)), ('pay', ('own', 1, 2)))
        whole = (('top', FINE),)
        weights, multipliers = self.least(kinds, rules, (1, 0), (3, 7))
        self.assertEqual(((ONLY, (1, 1)), (whole, (-1, 1))), weights)
        self.gives((7, 1), spread, kinds, rules, weights, (3, 7))

    def test_crowds(self):
        counts = {True: 0, False: 0}
        for chance, kinds, rules in setups(48, 70):
            for question in questions(chance, kinds, rules, 2):
                crowds = [tuple(chance.choice(some) for _ in kinds) for some in ([1, 5, 99], [0, 1], [0, 0, 3], [BIG, 0, 1])]
                for crowd in crowds + [(0,) * len(kinds), (1,) * len(kinds)]:
                    told = is_told(kinds, rules, question)
                    counts[told] += 1
                    if told:
                        self.least(kinds, rules, question, crowd)
                    else:
                        self.fails(NotTold(question), least_weights, kinds, rules, question, crowd)
        self.assertGreater(min(counts.values()), 50)

    def test_no_lesser_spread_and_just_one(self):
        for chance, kinds, rules in setups(481, 40, size=4):
            crowd = tuple(chance.randint(1, 9) for _ in kinds)
            for question in questions(chance, kinds, rules, 2):
                if not is_told(kinds, rules, question):
                    continue
                weights = least_weights(kinds, rules, question, crowd)[0]
                least = oracle.spread_of(kinds, rules, weights, crowd)
                sights = oracle.seen_sights(kinds, rules)
                others = [weights_for(kinds, rules, question)]
                for null in null_weights(oracle.chance_rows(kinds, rules))[:4]:
                    known = dict(weights)
                    moved = {sight: Fraction(*known.get(sight, (0, 1))) + part / 5 for sight, part in zip(sights, null)}
                    others.append(oracle.pairs({sight: part for sight, part in moved.items() if part}))
                for other in others:
                    self.gives(tuple((integer, 1) for integer in question), tells, kinds, rules, other)
                    if other != weights:
                        self.assertGreater(oracle.spread_of(kinds, rules, other, crowd), least)

    def test_multiples(self):
        for chance, kinds, rules in setups(482, 40, size=4):
            crowd = tuple(chance.randint(1, 9) for _ in kinds)
            for question in questions(chance, kinds, rules, 1):
                if is_told(kinds, rules, question):
                    weights = least_weights(kinds, rules, question, crowd)[0]
                    greater = tuple(3 * number for number in crowd)
                    self.assertEqual(weights, least_weights(kinds, rules, question, greater)[0])
                    least = Fraction(*spread(kinds, rules, weights, crowd))
                    tripled = tuple(-3 * integer for integer in question)
                    self.gives(oracle.pair(9 * least), spread, kinds, rules,
                               least_weights(kinds, rules, tripled, crowd)[0], crowd)

    def test_least_spread_of_0(self):
        """If no trace is ever unseen, and kinds with a common sight have the same integer."""
        chance = random.Random(483)
        tried = 0
        while tried < 25:
            kinds = random_kinds(chance, 4, 4, 'abc')
            rules = random_rules(chance, kinds)
            if any(can_be_unseen(kind, rules) for kind in kinds):
                continue
            tried += 1
            tables = [set(oracle.sight_chances(kind, rules)) for kind in kinds]
            question = list(range(len(kinds)))
            for _ in kinds:
                for one, left in enumerate(tables):
                    for other, right in enumerate(tables):
                        if left & right:
                            question[one] = question[other] = min(question[one], question[other])
            crowd = tuple(chance.randint(0, 9) for _ in kinds)
            weights, _ = self.least(kinds, rules, tuple(question), crowd)
            self.gives((0, 1), spread, kinds, rules, weights, crowd)

    def test_crowd_of_zeros(self):
        # Each sight is one that no trace of the crowd can have, so the multipliers add up to 0 for each.
        weights, multipliers = self.least(KINDS, RULES, (2, 2, 7), (0, 0, 0))
        self.gives((0, 1), spread, KINDS, RULES, weights, (0, 0, 0))
        self.assertEqual(Fraction(0), Fraction(*multipliers[2]))
        self.assertEqual((), expected(KINDS, RULES, (0, 0, 0)))

    def test_wrong_values(self):
        for thing in strange_values() + NO_QUESTIONS:
            self.fails(QUESTION, least_weights, KINDS, RULES, thing, (1, 1, 1))
            self.fails(QUESTION, least_weights, KINDS, RULES, thing, thing)
        for thing in strange_values() + NO_CROWDS:
            self.fails(CROWD, least_weights, KINDS, RULES, (0, 0, 1), thing)
            # That the question is not told comes behind all other errors.
            self.fails(CROWD, least_weights, KINDS, RULES, (1, 0, 0), thing)
            self.fails(QUESTION, least_weights, KINDS, RULES, (1, 0), thing)
        self.fails(NotTold((BIG, 0, -1)), least_weights, KINDS, RULES, (BIG, 0, -1), (0, 0, 0))

    def test_limits(self):
        chance = random.Random(103)
        for words in ((('own', 5, 12), ('shared', 7, 11)), (('own', 11, 12), ('own', 1, 11)), (('shared', 1, 12), ('late',))):
            kinds = ()
            while len(kinds) < 6:
                kinds = random_kinds(chance, 9, 6)[:6]
            services = sorted({service for kind in kinds for _, service, _ in oracle.all_paths(kind)})
            rules = tuple((service, ('or', *words)) for service in services)
            question, crowd = (9, -9, 3, 0, 1, -2), (99, 0, 1, 50, 98, 7)
            if is_told(kinds, rules, question):
                weights, multipliers = least_weights(kinds, rules, question, crowd)
                self.gives(tuple((integer, 1) for integer in question), tells, kinds, rules, weights)
                self.assertGreaterEqual(spread(kinds, rules, weights, crowd)[0], 0)
                self.assertEqual(6, len(multipliers))
            else:
                self.fails(NotTold(question), least_weights, kinds, rules, question, crowd)
