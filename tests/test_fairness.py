"""[43] and [44], with [6], [7] and [34]; what follows, (T3) behind [45], and [9] (T3)."""

import random
from fractions import Fraction
from math import lcm

from tests import oracle
from tests.support import (
    ALONE, BIG, FINE, KINDS, NO_QUESTIONS, RULES, WRONG, Case, names_in, questions, random_tree, setups, strange_values)
from thinspans.asking import is_told
from thinspans.errors import NotUsable
from thinspans.fairness import fair_weights_for, is_fairly_told
from thinspans.kinds import is_fraction

SEEN, LOST, FULL = (('top', ALONE),), (('lost', (('pay', 1, ()),)),), (('top', WRONG),)
EVERY = (('front', ('own', 1, 1)), ('pay', ('own', 1, 1)))
# Both kinds may be seen as a, one of them as b, too: so its integer is not less than the other one's.
TWO = (('a', 0, ()), ('a', 0, (('b', 0, ()),)))


def whole(fractions):
    common = lcm(*[fraction.denominator for fraction in fractions])
    return tuple(int(common * fraction) for fraction in fractions)


def fair_questions(chance, kinds, rules):
    """Questions that fair weights tell: of the chances of one sight, times their denominator, and sums of such."""
    columns = [whole(column) for column in oracle.transposed(oracle.chance_rows(kinds, rules))]
    found = [(0,) * len(kinds)] + columns
    for _ in range(2 if columns else 0):
        one, two = chance.choice(columns), chance.choice(columns)
        found.append(tuple(a + 3 * b for a, b in zip(one, two)))
    return found


def near_questions(chance, kinds, rules):
    """Questions of which some are told, some of them by fair weights."""
    found = questions(chance, kinds, rules, 3)
    for one in fair_questions(chance, kinds, rules)[-4:]:
        place = chance.randrange(len(kinds))
        found.append(tuple(max(0, part + (chance.choice([-1, 1]) if k == place else 0)) for k, part in enumerate(one)))
    columns = [whole(column) for column in oracle.transposed(oracle.chance_rows(kinds, rules))]
    for _ in range(3 if columns else 0):
        one, two = chance.choice(columns), chance.choice(columns)
        found.append(tuple(2 * a - b for a, b in zip(one, two)))
    return found


class Fairness(Case):

    def tells(self, kinds, rules, question):
        """That fair weights are returned, and tell the question."""
        weights = fair_weights_for(kinds, rules, question)
        self.gives(weights, fair_weights_for, kinds, rules, question)
        self.gives(True, is_fairly_told, kinds, rules, question)
        self.assertIs(tuple, type(weights), (kinds, rules, question))
        known = [sight for sight, _ in weights]
        self.assertEqual(sorted(set(known)), known)
        self.assertLessEqual(set(known), set(oracle.seen_sights(kinds, rules)))
        for pair in weights:
            self.assertEqual((tuple, 2), (type(pair), len(pair)))
            self.is_plain_fraction(pair[1])
            self.assertTrue(is_fraction(pair[1]) and pair[1][0] > 0)
        self.assertEqual(list(question), oracle.weight_sums(kinds, rules, weights))

    def does_not_tell(self, kinds, rules, question):
        self.gives(None, fair_weights_for, kinds, rules, question)
        self.gives(False, is_fairly_told, kinds, rules, question)

    def test_example(self):
        self.gives(True, is_fairly_told, KINDS, RULES, (1, 1, 3))
        self.gives(False, is_fairly_told, KINDS, RULES, (-1, -1, 3))
        self.gives(False, is_fairly_told, KINDS, RULES, (1, 2, 0))

    def test_by_hand(self):
        self.gives(((SEEN, (2, 1)),), fair_weights_for, KINDS, RULES, (1, 1, 0))
        self.gives((), fair_weights_for, KINDS, RULES, (0, 0, 0))
        for question in [(1, 1, 0), (0, 0, 1), (5, 5, 7), (BIG, BIG, 0), (BIG, BIG, BIG - 1)]:
            self.tells(KINDS, RULES, question)
        # Told, but not fairly; not told.
        for question in [(1, 1, -1), (-1, -1, 0), (-1, -1, -1), (0, 0, -BIG), (1, 0, 0), (0, 1, 0), (1, 2, 3), (1, -1, 0), (BIG, BIG + 1, 0)]:
            self.does_not_tell(KINDS, RULES, question)
        for question in [(1, 0, 0), (0, BIG, 0), (1, 2, 3), (0, 0, 0)]:
            self.tells(KINDS, EVERY, question)
        for question in [(1, 0, -1), (-BIG, 5, 5), (-1, 0, 0)]:
            self.does_not_tell(KINDS, EVERY, question)
        self.tells(kinds=KINDS, rules=RULES, question=(1, 1, 0))

    def test_told_but_not_fairly(self):
        rules = (('a', ('own', 1, 1)), ('b', ('own', 1, 2)))
        for question in [(1, 1), (0, 1), (2, 1), (2, 5), (BIG, BIG), (2 * BIG, BIG), (0, 0)]:
            self.assertTrue(is_told(TWO, rules, question))
            # As a alone, half of the second kind is like the first one.
            self.tells(TWO, rules, question)
        for question in [(3, 1), (1, 0), (2 * BIG + 1, BIG), (-1, 1), (1, -1)]:
            self.assertTrue(is_told(TWO, rules, question))
            self.does_not_tell(TWO, rules, question)

    def test_nothing_seen(self):
        for rules in [(('front', ('never',)), ('pay', ('caller',))), (('front', ('own', 0, 9)), ('pay', ('shared', 0, 1)))]:
            self.gives((), fair_weights_for, KINDS, rules, (0, 0, 0))
            for question in [(1, 1, 1), (0, 0, 1), (0, -1, 0), (BIG, 0, 0)]:
                self.does_not_tell(KINDS, rules, question)

    def test_chances_of_one_sight(self):
        for chance, kinds, rules in setups(44, 60, kinds=5):
            for question in fair_questions(chance, kinds, rules):
                self.tells(kinds, rules, question)
                self.tells(kinds, rules, tuple(BIG * part for part in question))

    def test_fairly_told_or_not(self):
        counts = {}
        for chance, kinds, rules in setups(441, 80):
            for question in near_questions(chance, kinds, rules):
                wanted = oracle.fairly_told(kinds, rules, question)
                one = oracle.told(kinds, rules, question), wanted
                counts[one] = counts.get(one, 0) + 1
                if wanted:
                    self.tells(kinds, rules, question)
                else:
                    self.does_not_tell(kinds, rules, question)
        # What fair weights tell is told, so the fourth pair never comes.
        self.assertEqual({(True, True), (True, False), (False, False)}, set(counts))
        self.assertGreater(min(counts.values()), 30)

    def test_no_questions(self):
        for thing in strange_values() + NO_QUESTIONS:
            for function in (is_fairly_told, fair_weights_for):
                self.fails(NotUsable('question', -1), function, KINDS, RULES, thing)
        self.fails(NotUsable('question', -1), fair_weights_for, (ALONE, FINE), RULES, (1, 1, 0))

    def test_limits(self):
        chance = random.Random(442)
        for words in ((('own', 5, 12), ('shared', 7, 11)), (('shared', 1, 12), ('own', 11, 12)), (('own', 1, 7), ('caller',)), (('own', 4, 9), ('late',))):
            kinds = set()
            while len(kinds) < 6:
                kinds.add(random_tree(chance, 6))
            kinds = tuple(sorted(kinds))
            services = sorted(set().union(*[names_in(kind) for kind in kinds]))
            rules = tuple((service, ('or', *words)) for service in services)
            for question in [(1, 1, 1, 1, 1, 1), (9, 8, 7, 6, 5, 4), (0, 0, 0, 0, 0, 9), (9, 0, 9, 0, 9, 0), (1, 0, 0, 0, 0, 0)]:
                weights = fair_weights_for(kinds, rules, question)
                if weights is not None:
                    self.tells(kinds, rules, question)
                else:
                    self.does_not_tell(kinds, rules, question)


class Consequences(Case):
    """Behind [45], (T3)."""

    def test_sums_and_integers_below_0(self):
        for chance, kinds, rules in setups(45, 60):
            asked = near_questions(chance, kinds, rules)
            fair = [question for question in asked if is_fairly_told(kinds, rules, question)]
            for question in asked:
                if min(question) < 0:
                    self.gives(False, is_fairly_told, kinds, rules, question)
            for one in fair:
                self.gives(True, is_told, kinds, rules, one)
                other = chance.choice(fair)
                self.gives(True, is_fairly_told, kinds, rules, tuple(a + b for a, b in zip(one, other)))
                # The sums of the weights tell the sum.
                sums = {}
                for sight, weight in fair_weights_for(kinds, rules, one) + fair_weights_for(kinds, rules, other):
                    sums[sight] = sums.get(sight, 0) + Fraction(*weight)
                told = oracle.weight_sums(kinds, rules, oracle.pairs(sums))
                self.assertEqual([a + b for a, b in zip(one, other)], told)

    def test_upward_rays(self):
        """That the other way is right: the rays are upward, and each upward difference that is tried shows no more than they do."""
        for chance, kinds, rules in setups(451, 40, kinds=3):
            rays = oracle.upward_rays(kinds, rules)
            self.assertTrue(all(oracle.is_upward(kinds, rules, one) for one in rays))
            for question in near_questions(chance, kinds, rules):
                for _ in range(20):
                    one = tuple(chance.randint(-3, 3) for _ in kinds)
                    if oracle.is_upward(kinds, rules, one) and sum(a * b for a, b in zip(one, question)) < 0:
                        self.assertFalse(oracle.fairly_told(kinds, rules, question))
