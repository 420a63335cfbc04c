"""[34] and [35], with [6]; the errors ahead of [34]; what follows, [36]."""

import random
from fractions import Fraction

from tests import oracle
from tests.support import (
    ALONE, BIG, FINE, KINDS, NO_QUESTIONS, RULES, WRONG, Case, questions, random_kinds, setups, strange_values)
from thinspans.asking import is_told, tells, weights_for
from thinspans.averages import look_alikes
from thinspans.errors import NotUsable
from thinspans.kinds import is_fraction
from thinspans.sighting import all_sights

QUESTION, WEIGHTS = NotUsable('question', -1), NotUsable('weights', -1)
SEEN, LOST, FULL = (('top', ALONE),), (('lost', (('pay', 1, ()),)),), (('top', WRONG),)


class Asking(Case):

    def told(self, kinds, rules, question):
        """That the weights are weights, and tell the question."""
        weights = weights_for(kinds, rules, question)
        self.assertIs(tuple, type(weights))
        sights = [sight for sight, _ in weights]
        self.assertEqual(sorted(set(sights)), sights)
        known = all_sights(kinds, rules)
        for pair in weights:
            self.assertTrue(type(pair) is tuple and len(pair) == 2)
            self.assertIn(pair[0], known)
            self.assertTrue(is_fraction(pair[1]) and pair[1] != (0, 1))
        self.assertEqual(list(question), oracle.weight_sums(kinds, rules, weights))
        self.gives(tuple((integer, 1) for integer in question), tells, kinds, rules, weights)
        self.gives(weights, weights_for, kinds, rules, question)

    def test_example(self):
        self.gives(True, is_told, KINDS, RULES, (1, 1, 0))
        self.gives(False, is_told, KINDS, RULES, (1, 0, 0))
        self.gives(True, is_told, KINDS, RULES, (0, 0, 5))
        self.gives(((1, 1), (1, 1), (1, 2)), tells, KINDS, RULES, ((LOST, (1, 1)), (SEEN, (2, 1))))

    def test_weights_by_hand(self):
        self.gives(((SEEN, (2, 1)),), weights_for, KINDS, RULES, (1, 1, 0))
        self.gives((), weights_for, KINDS, RULES, (0, 0, 0))
        self.gives(None, weights_for, KINDS, RULES, (1, 0, 0))
        self.gives(None, weights_for, KINDS, RULES, (1, -1, BIG))
        never = (('front', ('never',)), ('pay', ('caller',)))
        self.gives((), weights_for, KINDS, never, (0, 0, 0))
        self.gives(None, weights_for, KINDS, never, (0, 0, 1))
        self.gives(False, is_told, KINDS, never, (1, 1, 1))
        self.gives((((('top', ALONE),), (BIG, 1)),), weights_for, (ALONE,), (('front', ('own', 2, 2)),), (BIG,))
        self.told(KINDS, RULES, (-BIG, -BIG, 7))
        self.told(KINDS, RULES, (9, 9, -9))

    def test_told_or_not(self):
        counts = {True: 0, False: 0}
        for chance, kinds, rules in setups(34, 60):
            for question in questions(chance, kinds, rules):
                wanted = oracle.told(kinds, rules, question)
                counts[wanted] += 1
                self.gives(wanted, is_told, kinds, rules, question)
                if wanted:
                    self.told(kinds, rules, question)
                else:
                    self.gives(None, weights_for, kinds, rules, question)
        self.assertGreater(min(counts.values()), 50)

    def test_tells(self):
        for chance, kinds, rules in setups(35, 60):
            weights = tuple((sight, oracle.pair(Fraction(chance.choice([-9, -1, 1, 2, 8]), chance.randint(1, 12))))
                            for sight in all_sights(kinds, rules) if chance.random() < 0.6)
            self.gives(tuple(oracle.pair(part) for part in oracle.weight_sums(kinds, rules, weights)),
                       tells, kinds, rules, weights)
        self.gives(((0, 1), (0, 1), (0, 1)), tells, KINDS, RULES, ())
        self.gives(((0, 1), (0, 1), (BIG, 2)), tells, KINDS, RULES, ((FULL, (BIG, 1)),))
        self.gives(((-1, 2 * BIG), (-1, 2 * BIG), (0, 1)), tells, KINDS, RULES, ((SEEN, (-1, BIG)),))

    def test_no_questions(self):
        for thing in strange_values() + NO_QUESTIONS:
            for function in (is_told, weights_for):
                self.fails(QUESTION, function, KINDS, RULES, thing)

    def test_no_weights(self):
        other = (('top', FINE),)
        for thing in strange_values() + [
                0, 1, [(LOST, (1, 1))], ([LOST, (1, 1)],), ((LOST, [1, 1]),), ((LOST, (1, 1), ()),), ((LOST,),), (LOST, (1, 1)),
                ((SEEN, (1, 1)), (LOST, (1, 1))), ((LOST, (1, 1)), (LOST, (1, 1))), ((LOST, (1, 1)), (LOST, (2, 1))),
                ((LOST, (0, 1)),), ((LOST, (1, 1)), (SEEN, (0, 1))), ((LOST, (2, 4)),), ((LOST, (1, 0)),), ((LOST, (1, -1)),),
                ((LOST, 1),), ((LOST, (True, 1)),), ((LOST, (1, True)),), ((LOST, None),),
                ((other, (1, 1)),), (((), (1, 1)),), (((), (1, 1)), (LOST, (1, 1))), ((FULL[0], (1, 1)),),
                (((('lost', (('pay', True, ()),)),), (1, 1)),), (((('top', ('front', False, ())),), (1, 1)),),
                ((list(LOST), (1, 1)),), ((None, (1, 1)),), ((LOST, (1, 1)), None)]:
            self.fails(WEIGHTS, tells, KINDS, RULES, thing)


class Consequences(Case):
    """[36]"""

    def test_sums_and_multiples(self):
        for chance, kinds, rules in setups(36, 40):
            some = [question for question in questions(chance, kinds, rules) if is_told(kinds, rules, question)]
            one, other = chance.choice(some), chance.choice(some)
            times = chance.randint(-5, 5)
            total = tuple(a * times + b for a, b in zip(one, other))
            self.gives(True, is_told, kinds, rules, total)
            added = {}
            for weights, factor in ((weights_for(kinds, rules, one), times), (weights_for(kinds, rules, other), 1)):
                for sight, weight in weights:
                    added[sight] = added.get(sight, 0) + factor * Fraction(*weight)
            weights = oracle.pairs({sight: weight for sight, weight in added.items() if weight})
            self.gives(tuple((integer, 1) for integer in total), tells, kinds, rules, weights)

    def test_fewer_kinds(self):
        for chance, kinds, rules in setups(361, 40):
            for question in questions(chance, kinds, rules):
                if is_told(kinds, rules, question):
                    places = [k for k in range(len(kinds)) if chance.random() < 0.6] or [0]
                    fewer = tuple(kinds[k] for k in places)
                    services = {service for kind in fewer for _, service, _ in oracle.all_paths(kind)}
                    self.gives(True, is_told, fewer, tuple(pair for pair in rules if pair[0] in services),
                               tuple(question[k] for k in places))

    def test_one_integer_for_kinds_that_look_alike(self):
        for chance, kinds, rules in setups(362, 40):
            for question in questions(chance, kinds, rules):
                if is_told(kinds, rules, question):
                    for some in look_alikes(kinds, rules):
                        self.assertEqual(1, len({question[k] for k in some}))

    def test_chances_of_own_rules_do_not_matter(self):
        """(T2)"""
        chance = random.Random(92)
        for _ in range(40):
            kinds = random_kinds(chance, 4, 4, 'abc')
            services = sorted({service for kind in kinds for _, service, _ in oracle.all_paths(kind)})
            never = [service for service in services if chance.random() < 0.4]

            def rules():
                found = []
                for service in services:
                    q = chance.randint(1, 12)
                    found.append((service, ('never',) if service in never else ('own', chance.randint(1, q), q)))
                return tuple(found)
            one, other = rules(), rules()
            for question in questions(chance, kinds, one):
                self.assertIs(is_told(kinds, one, question), is_told(kinds, other, question))
                if not never:
                    # Each kind can be seen whole.
                    self.assertTrue(is_told(kinds, one, question))

    def test_limits(self):
        chance = random.Random(102)
        kinds = ()
        while len(kinds) < 6:
            kinds = random_kinds(chance, 9, 6)[:6]
        services = sorted({service for kind in kinds for _, service, _ in oracle.all_paths(kind)})
        for one, other in ((('own', 5, 12), ('shared', 7, 11)), (('own', 1, 12), ('caller',)), (('shared', 1, 12), ('late',))):
            rules = tuple((service, ('or', one, other)) for service in services)
            for question in ((9, -9, 9, -9, 9, -9), (1, 1, 1, 1, 1, 1), (0, 0, 0, 0, 0, 1)):
                weights = weights_for(kinds, rules, question)
                self.gives(weights is not None, is_told, kinds, rules, question)
                if weights is not None:
                    self.gives(tuple((integer, 1) for integer in question), tells, kinds, rules, weights)
