"""[50] and [51], with [26] and the rows of [47]; what follows, [53], and [9] (T5)."""

import random
from fractions import Fraction
from itertools import chain
from math import lcm

from tests import oracle
from tests.support import ALONE, BIG, FINE, KINDS, NO_QUESTIONS, RULES, WRONG, Case, names_in, setups, spoiled, strange_values
from thinspans.asking import is_told
from thinspans.collecting import is_told_apart, part_sights, part_weights
from thinspans.errors import NotUsable
from thinspans.kinds import is_fraction
from thinspans.sighting import all_sights

COLLECTORS, QUESTION = NotUsable('collectors', -1), NotUsable('question', -1)
BOTH = (('front', ('own', 1, 1)), ('pay', ('own', 1, 1)))
FOUR = tuple([('front', i, (('pay', j, ()),)) for i in (0, 1) for j in (0, 1)])
APART, JOINED = (('front',), ('pay',)), (('front', 'pay'),)
ONLY, PAID = (('top', ALONE),), (('lost', (('pay', 1, ()),)),)
NO_COLLECTORS = [
    (), 0, list(APART), (('front',),), (('pay',),), APART + (('front',),), APART + (('x',),), (('front',), ('pay', 'x')), (('front',), ()),
    APART + ((),), ((), ('front', 'pay')), (('pay', 'front'),), (('front', 'front'), ('pay',)), (('front', 'pay', 'pay'),),
    (('front', 'pay'), ('pay',)), JOINED + JOINED, (['front'], ('pay',)), (('front',), ['pay']), ('front', 'pay'), (('front',), 'pay'),
    (('front',), None), (('front',), (1,)), (('front',), ('pay', None)), (('front',), (('pay',),)), (('Front',), ('pay',)),
    (('front', 'pay '),), ((('front', 'pay'),),), (('front',), ('fron', 'pay')), (('',), ('front', 'pay'))]


def parted(chance, kinds):
    """Any collectors of the kinds."""
    services = sorted(set().union(*[names_in(kind) for kind in kinds]))
    groups = [[] for _ in range(chance.randint(1, len(services)))]
    for service in services:
        chance.choice(groups).append(service)
    chance.shuffle(groups)
    return tuple(tuple(group) for group in groups if group)


def part_rows(kinds, rules, collectors):
    """All part sights, and for each kind its chances of them."""
    tables = [oracle.part_chances(kind, rules, collectors) for kind in kinds]
    parts = sorted({part for table in tables for part in table})
    return parts, [[table.get(part, Fraction(0)) for part in parts] for table in tables]


def told_apart(kinds, rules, collectors, question):
    columns = oracle.transposed(part_rows(kinds, rules, collectors)[1])
    return oracle.rank(columns) == oracle.rank(columns + [list(question)]) if columns else not any(question)


def some_questions(chance, kinds, rules, collectors):
    """Questions some of which are told, and some apart."""
    found = [tuple(chance.randint(-3, 3) for _ in kinds), (1,) * len(kinds), (0,) * len(kinds)]
    for columns in (oracle.transposed(part_rows(kinds, rules, collectors)[1]), oracle.transposed(oracle.chance_rows(kinds, rules))):
        if columns:
            one, two = chance.choice(columns), chance.choice(columns)
            found.append(whole([a + 3 * b for a, b in zip(one, two)]))
    return found


def whole(fractions):
    common = lcm(*[fraction.denominator for fraction in fractions])
    return tuple(int(common * fraction) for fraction in fractions)


def marked_setups(seed, many):
    """Kinds that are alike but for their marks, and rules by which much of them is kept."""
    chance = random.Random(seed)
    for _ in range(many):
        kinds = tuple(sorted({('a', chance.randint(0, 1), (('b', chance.randint(0, 1), (('c', chance.randint(0, 1), ()),)),))
                              for _ in range(chance.randint(3, 5))}))
        yield chance, kinds, tuple((service, ('own', chance.randint(1, 2), 2)) for service in 'abc')


class PartSights(Case):

    def test_by_hand(self):
        self.gives(((0, ONLY), (1, PAID)), part_sights, KINDS, RULES, APART)
        self.gives(((0, PAID), (1, ONLY)), part_sights, KINDS, RULES, APART[::-1])
        self.gives(((0, PAID), (0, ONLY), (0, (('top', WRONG),))), part_sights, KINDS, RULES, JOINED)
        self.gives((), part_sights, KINDS, (('front', ('never',)), ('pay', ('caller',))), APART)
        # Of no sight is anything left for the second one.
        self.gives(((0, ONLY),), part_sights, (ALONE, FINE), RULES, APART)
        self.gives(tuple(sorted([(0, (('top', ('front', i, ())),)) for i in (0, 1)] + [(1, (('lost', (('pay', j, ()),)),)) for j in (0, 1)])),
                   part_sights, FOUR, BOTH, APART)

    def test_lost_callers_between(self):
        # Each span that goes is a lost caller of its own.
        kind = ('a', 0, (('b', 0, (('a', 0, ()), ('a', 1, ()))), ('b', 0, (('a', 0, ()),))))
        rules = (('a', ('own', 1, 1)), ('b', ('own', 1, 1)))
        left, right = ('a', 0, ()), ('a', 1, ())
        self.gives(((0, (('lost', (left,)), ('lost', (left, right)), ('top', left))),
                    (1, (('lost', (('b', 0, ()), ('b', 0, ()))),))), part_sights, (kind,), rules, (('a',), ('b',)))

    def test_as_defined(self):
        for chance, kinds, rules in setups(50, 70):
            for _ in range(2):
                collectors = parted(chance, kinds)
                self.gives(tuple(part_rows(kinds, rules, collectors)[0]), part_sights, kinds, rules, collectors)
            everyone = (tuple(sorted(set().union(*[names_in(kind) for kind in kinds]))),)
            self.gives(tuple((0, sight) for sight in all_sights(kinds, rules)), part_sights, kinds, rules, everyone)


class ToldApart(Case):

    def tells(self, kinds, rules, collectors, question, weights):
        """That they are part weights that tell the question, by the words of [50]."""
        self.assertIs(tuple, type(weights))
        parts, rows = part_rows(kinds, rules, collectors)
        known = [part for part, _ in weights]
        self.assertEqual(sorted(set(known)), known)
        self.assertLessEqual(set(known), set(parts))
        self.assertTrue(all(type(pair) is tuple and len(pair) == 2 and is_fraction(pair[1]) and pair[1] != (0, 1) for pair in weights))
        self.assertTrue(all(type(part) is tuple and type(part[0]) is int for part in known))
        weigh = dict(weights)
        self.assertEqual(list(question), [sum(entry * Fraction(*weigh.get(part, (0, 1))) for part, entry in zip(parts, row)) for row in rows])

    def test_example(self):
        self.gives(False, is_told_apart, FOUR, BOTH, APART, (0, 0, 0, 1))
        self.gives(True, is_told_apart, FOUR, BOTH, APART, (0, 0, 1, 1))
        self.gives((((1, PAID), (1, 1)),), part_weights, KINDS, RULES, APART, (0, 0, 1))

    def test_by_hand(self):
        # Told, but not apart.
        for question in [(0, 0, 0, 1), (1, 0, 0, 0), (1, 2, 3, 9), (1, 0, 0, 1)]:
            self.assertTrue(is_told(FOUR, BOTH, question))
            self.gives(None, part_weights, FOUR, BOTH, APART, question)
            self.gives(False, is_told_apart, FOUR, BOTH, APART[::-1], question)
            self.gives(True, is_told_apart, FOUR, BOTH, JOINED, question)
        for question in [(0, 1, 0, 1), (5, 5, -5, -5), (1, 2, 3, 4), (BIG, 0, BIG, 0), (0, 0, 0, 0)]:
            for collectors in (APART, APART[::-1], JOINED):
                self.gives(True, is_told_apart, FOUR, BOTH, collectors, question)
                self.tells(FOUR, BOTH, collectors, question, part_weights(FOUR, BOTH, collectors, question))
        self.gives((), part_weights, KINDS, RULES, APART, (0, 0, 0))
        never = (('front', ('never',)), ('pay', ('caller',)))
        self.gives((), part_weights, KINDS, never, APART, (0, 0, 0))
        self.gives(None, part_weights, KINDS, never, APART, (0, 0, 1))

    def test_as_defined(self):
        counts = {(True, True): 0, (True, False): 0, (False, False): 0}
        for chance, kinds, rules in chain(setups(51, 60), marked_setups(511, 60)):
            collectors = parted(chance, kinds)
            for question in some_questions(chance, kinds, rules, collectors):
                wanted = told_apart(kinds, rules, collectors, question)
                counts[oracle.told(kinds, rules, question), wanted] += 1
                self.gives(wanted, is_told_apart, kinds, rules, collectors, question)
                weights = part_weights(kinds, rules, collectors, question)
                self.gives(weights, part_weights, kinds, rules, collectors, question)
                if wanted:
                    self.tells(kinds, rules, collectors, question, weights)
                else:
                    self.assertIs(None, weights)
        # What is told apart is told, so the fourth pair never comes: [53].
        self.assertGreater(min(counts.values()), 8)

    def test_consequences(self):
        """[53]."""
        for chance, kinds, rules in chain(setups(53, 30), marked_setups(531, 30)):
            services = tuple(sorted(set().union(*[names_in(kind) for kind in kinds])))
            collectors = parted(chance, kinds)
            for question in some_questions(chance, kinds, rules, collectors):
                self.gives(is_told(kinds, rules, question), is_told_apart, kinds, rules, (services,), question)
                if is_told_apart(kinds, rules, collectors, question):
                    self.gives(True, is_told, kinds, rules, question)
                    # Two collectors joined to one tell no less.
                    if len(collectors) > 1:
                        one = (tuple(sorted(collectors[0] + collectors[-1])),) + collectors[1:-1]
                        self.gives(True, is_told_apart, kinds, rules, one, question)
                # In another order they tell the same.
                turned = collectors[::-1]
                self.gives(is_told_apart(kinds, rules, collectors, question), is_told_apart, kinds, rules, turned, question)

    def test_no_collectors(self):
        for thing in strange_values() + NO_COLLECTORS:
            self.fails(COLLECTORS, part_sights, KINDS, RULES, thing)
            for function in (is_told_apart, part_weights):
                self.fails(COLLECTORS, function, KINDS, RULES, thing, (0, 0, 1))
                # Ahead of the question.
                self.fails(COLLECTORS, function, KINDS, RULES, thing, thing)
        self.fails(COLLECTORS, part_sights, (ALONE,), (('front', ('bad',)),), APART)

    def test_spoiled_collectors(self):
        chance = random.Random(501)
        counts = {True: 0, False: 0}
        for _ in range(1500):
            start = chance.choice([APART, APART[::-1], JOINED])
            thing = spoiled(chance, start, ['front', 'pay', ('pay',), ('front',), ('front', 'pay')])
            good = thing in (APART, APART[::-1], JOINED)
            counts[good] += 1
            if good:
                self.assertEqual(tuple, type(part_sights(KINDS, RULES, thing)))
            else:
                self.fails(COLLECTORS, part_sights, KINDS, RULES, thing)
        self.assertGreater(min(counts.values()), 100)

    def test_no_questions(self):
        for thing in strange_values() + NO_QUESTIONS:
            for function in (is_told_apart, part_weights):
                self.fails(QUESTION, function, KINDS, RULES, APART, thing)
