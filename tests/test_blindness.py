"""[37], [38], [39], with [7]; what follows, [42], and [9] (T1) and (T2)."""

import random

from tests import oracle
from tests.support import (
    ALONE, BIG, FINE, KINDS, NO_QUESTIONS, RULES, WRONG, Case, questions, random_kinds, setups, strange_values)
from thinspans.asking import is_told
from thinspans.blindness import are_alike, blind_base, how_many_told, is_blind, told_with
from thinspans.errors import NotUsable

QUESTION, CROWD, DIFFERENCE = NotUsable('question', -1), NotUsable('crowd', -1), NotUsable('difference', -1)
NEVER = (('front', ('never',)), ('pay', ('never',)))
WHOLE = (('front', ('own', 1, 12)), ('pay', ('own', 1, 12)))


def blind(kinds, rules, difference):
    columns = oracle.transposed(oracle.chance_rows(kinds, rules))
    return all(sum(part * integer for part, integer in zip(column, difference)) == 0 for column in columns)


def mixes(chance, kinds, base, many):
    """Sums of multiples of the differences of a base."""
    found = []
    for _ in range(many):
        factors = [chance.choice([-3, -1, 0, 1, 2, 10 ** 40]) for _ in base]
        found.append(tuple(sum(f * difference[k] for f, difference in zip(factors, base)) for k in range(len(kinds))))
    return found


class Blindness(Case):

    def test_example(self):
        self.gives(True, is_blind, KINDS, RULES, (2, -2, 0))
        self.gives(True, are_alike, KINDS, RULES, (3, 0, 1), (1, 2, 1))
        self.gives(2, how_many_told, KINDS, RULES)
        self.gives(False, told_with, KINDS, RULES, (1, 0, 0))
        self.gives(True, told_with, KINDS, RULES, (1, 0, 0), (0, 3, 1))

    def test_blind_by_hand(self):
        for difference, wanted in [((0, 0, 0), True), ((-BIG, BIG, 0), True), ((1, -1, 1), False), ((1, 0, 0), False),
                                   ((0, 0, 1), False), ((1, 1, 0), False), ((BIG, -BIG - 1, 0), False)]:
            self.gives(wanted, is_blind, KINDS, RULES, difference)
            self.gives(not any(difference), is_blind, KINDS, WHOLE, difference)
            self.gives(True, is_blind, KINDS, NEVER, difference)

    def test_a_trace_not_seen_does_not_count(self):
        # By these rules FINE is seen never; one more of it is seen nowhere, although () comes more often.
        rules = (('front', ('late',)), ('pay', ('never',)))
        self.gives(True, is_blind, KINDS, rules, (0, 1, 0))
        self.gives(True, are_alike, KINDS, rules, (5, 1, 2), (0, 0, 2))
        self.gives(False, are_alike, KINDS, rules, (5, 1, 2), (5, 1, 1))

    def test_alike_by_hand(self):
        for one, other, wanted in [((0, 0, 0), (0, 0, 0), True), ((BIG, 0, 7), (0, BIG, 7), True), ((1, 2, 3), (1, 2, 3), True),
                                   ((BIG, 0, 7), (1, BIG, 7), False), ((0, 0, 1), (0, 0, 0), False), ((2, 0, 0), (0, 2, 0), True)]:
            self.gives(wanted, are_alike, KINDS, RULES, one, other)
            self.gives(wanted, are_alike, KINDS, RULES, other, one)
            self.gives(one == other, are_alike, KINDS, WHOLE, one, other)
            self.gives(True, are_alike, KINDS, NEVER, one, other)

    def test_base_by_hand(self):
        self.assertIn(blind_base(KINDS, RULES), [((k, -k, 0),) for k in (-1, 1)])
        self.gives((), blind_base, KINDS, WHOLE)
        self.gives(3, how_many_told, KINDS, WHOLE)
        self.assertEqual(3, len(blind_base(KINDS, NEVER)))
        self.gives(0, how_many_told, KINDS, NEVER)
        self.gives(1, how_many_told, (FINE,), RULES)
        self.gives((), blind_base, (FINE,), RULES)

    def test_base(self):
        seen = set()
        for chance, kinds, rules in setups(38, 120, kinds=6):
            base = blind_base(kinds, rules)
            self.gives(base, blind_base, kinds, rules)
            self.assertIs(tuple, type(base))
            many = oracle.rank(oracle.chance_rows(kinds, rules))
            self.gives(many, how_many_told, kinds, rules)
            self.assertEqual(len(kinds), many + len(base))
            seen.add(len(base))
            for difference in base:
                self.assertIs(tuple, type(difference))
                self.assertEqual([int] * len(kinds), [type(integer) for integer in difference])
                self.assertTrue(blind(kinds, rules, difference))
                self.gives(True, is_blind, kinds, rules, difference)
            # None is a sum of fractions of the others.
            self.assertEqual(len(base), oracle.rank(base))
            for difference in mixes(chance, kinds, base, 3):
                self.gives(True, is_blind, kinds, rules, difference)
        self.assertLess({0, 1, 2}, seen)

    def test_blind_or_not(self):
        for chance, kinds, rules in setups(37, 60):
            for _ in range(6):
                difference = tuple(chance.choice([-2, -1, 0, 0, 1, 2]) for _ in kinds)
                self.gives(blind(kinds, rules, difference), is_blind, kinds, rules, difference)

    def test_crowds_of_any_size(self):
        for chance, kinds, rules in setups(371, 60):
            base = blind_base(kinds, rules)
            crowd = tuple(chance.choice([0, 1, 99, BIG]) for _ in kinds)
            for difference in mixes(chance, kinds, base, 3) + [tuple(chance.randint(-1, 1) for _ in kinds)]:
                raised = [max(number, -integer) for number, integer in zip(crowd, difference)]
                other = tuple(number + integer for number, integer in zip(raised, difference))
                self.gives(blind(kinds, rules, difference), are_alike, kinds, rules, tuple(raised), other)

    def test_wrong_values(self):
        for thing in strange_values() + NO_QUESTIONS:
            self.fails(DIFFERENCE, is_blind, KINDS, RULES, thing)
            self.fails(CROWD, are_alike, KINDS, RULES, thing, (1, 2, 3))
            self.fails(CROWD, are_alike, KINDS, RULES, (1, 2, 3), thing)
            self.fails(QUESTION, told_with, KINDS, RULES, thing)
            self.fails(QUESTION, told_with, KINDS, RULES, (1, 2, 3), thing)
            self.fails(QUESTION, told_with, KINDS, RULES, thing, (1, 2, 3))
            self.fails(QUESTION, told_with, KINDS, RULES, (1, 2, 3), (0, 0, 0), (4, 5, 6), thing, (1, 0, 0))
        for thing in [(-1, 0, 0), (0, 0, -BIG)]:
            self.fails(CROWD, are_alike, KINDS, RULES, thing, (1, 2, 3))
            self.fails(CROWD, are_alike, KINDS, RULES, (1, 2, 3), thing)


class ToldWith(Case):

    def test_by_hand(self):
        for question, others, wanted in [
                ((1, 0, 0), ((1, 0, 0),), True), ((1, 0, 0), ((BIG, 0, 0),), True), ((1, 0, 0), ((0, 0, 0),), False),
                ((1, 0, 0), ((1, 1, 0), (0, 0, 1)), False), ((1, 0, 0), ((1, 1, 0), (1, -1, 5)), True),
                ((0, 1, 0), ((2, 0, 0),), True), ((1, 1, 7), ((9, 0, 0),), True), ((0, 0, 0), (), True),
                ((BIG, -BIG, 1), ((1, 0, 3), (1, 0, 3)), True)]:
            self.gives(wanted, told_with, KINDS, RULES, question, *others)
        self.gives(True, told_with, KINDS, NEVER, (1, 2, 3), (1, 1, 1), (0, 1, 2))
        self.gives(False, told_with, KINDS, NEVER, (1, 2, 4), (1, 1, 1), (0, 1, 2))
        self.gives(True, told_with, KINDS, NEVER, (0, 0, 0))

    def test_known_beside_told(self):
        counts = {True: 0, False: 0}
        for chance, kinds, rules in setups(39, 60, kinds=6):
            for question in questions(chance, kinds, rules, 2):
                others = [tuple(chance.randint(-3, 3) for _ in kinds) for _ in range(chance.randint(0, 2))]
                wanted = oracle.told(kinds, rules, question, others)
                counts[wanted] += 1
                self.gives(wanted, told_with, kinds, rules, question, *others)
                if is_told(kinds, rules, question):
                    self.assertTrue(wanted)
                # With each question once known it is told, and without any if and only if it is told.
                self.gives(True, told_with, kinds, rules, question, *others, question)
                self.gives(is_told(kinds, rules, question), told_with, kinds, rules, question)
        self.assertGreater(min(counts.values()), 30)


class Consequences(Case):
    """[42] and (T1), as far as they speak of these functions."""

    def test_told_if_no_blind_difference_says_no(self):
        for chance, kinds, rules in setups(42, 80):
            base = blind_base(kinds, rules)
            for question in questions(chance, kinds, rules, 3):
                sums = [sum(a * b for a, b in zip(question, difference)) for difference in base]
                self.gives(not any(sums), is_told, kinds, rules, question)
                for difference, total in zip(base, sums):
                    # Two alike crowds with different totals.
                    one = tuple(max(0, integer) for integer in difference)
                    other = tuple(max(0, -integer) for integer in difference)
                    self.gives(True, are_alike, kinds, rules, one, other)
                    totals = [sum(a * b for a, b in zip(question, crowd)) for crowd in (one, other)]
                    self.assertEqual(total, totals[0] - totals[1])

    def test_services_that_are_never_kept(self):
        rules = (('front', ('never',)), ('pay', ('own', 1, 12)))
        for kinds in ((ALONE, FINE, WRONG), (FINE, WRONG)):
            for rules_then in (rules, (('front', ('never',)), ('pay', ('own', 12, 12)))):
                self.gives(2, how_many_told, kinds, rules_then)

    def test_limits(self):
        chance = random.Random(104)
        for words in ((('own', 5, 12), ('shared', 7, 11)), (('shared', 1, 12), ('late',)), (('own', 1, 12), ('caller',))):
            kinds = ()
            while len(kinds) < 6:
                kinds = random_kinds(chance, 9, 6)[:6]
            services = sorted({service for kind in kinds for _, service, _ in oracle.all_paths(kind)})
            rules = tuple((service, ('or', *words)) for service in services)
            base = blind_base(kinds, rules)
            self.gives(6 - len(base), how_many_told, kinds, rules)
            for difference in base:
                self.gives(True, is_blind, kinds, rules, difference)
            self.gives(True, told_with, kinds, rules, (9, -9, 3, 0, 1, -2), (1, 0, 0, 0, 1, 0), (18, -18, 6, 0, 2, -4))
