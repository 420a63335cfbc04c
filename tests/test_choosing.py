"""[54] and [55], with [3], [4] and [28]; what follows of the cheapest rules, [60], and [9] (T5)."""

import random
from fractions import Fraction
from itertools import product

from tests import oracle
from tests.support import (
    ALONE, BIG, FINE, KINDS, NO_QUESTIONS, RULES, WRONG, Case, names_in, random_kinds, random_rule, setups, spoiled,
    strange_values)
from thinspans.averages import kept_spans
from thinspans.choosing import cheapest, chosen_rules, cost_of
from thinspans.errors import NotUsable
from thinspans.kinds import is_rule

OPTIONS = (('front', (('own', 1, 2), ('never',))), ('pay', (('bad',), ('own', 1, 1))))
ONES = (1, 1, 1)
NEVER, BAD, ALL = ('never',), ('bad',), ('own', 1, 1)
NO_OPTIONS = [
    0, [], (), OPTIONS[:1], OPTIONS[1:], OPTIONS[::-1], OPTIONS + OPTIONS[1:], OPTIONS + (('z', (BAD,)),), list(OPTIONS), RULES,
    (OPTIONS[0], OPTIONS[0]), (OPTIONS[0], list(OPTIONS[1])), (OPTIONS[0], ('paid', (BAD,))), (OPTIONS[0], (0, (BAD,))),
    (OPTIONS[0], (None, (BAD,))), (OPTIONS[0], ('pay', (BAD,), 0)), (OPTIONS[0], ('pay',)), (OPTIONS[0], ('pay', ())),
    (OPTIONS[0], ('pay', [BAD])), (OPTIONS[0], ('pay', (BAD, BAD))), (OPTIONS[0], ('pay', (BAD, NEVER, BAD))),
    (OPTIONS[0], ('pay', BAD)), (OPTIONS[0], ('pay', (['bad'],))), (OPTIONS[0], ('pay', (('all',),))),
    (OPTIONS[0], ('pay', (BAD, ('own', 2, 1)))), (OPTIONS[0], ('pay', (BAD, ('own', 1, True)))), (OPTIONS[0], ('pay', (BAD, None))),
    (OPTIONS[0], ('pay', 0)), (OPTIONS[0], None), (('front', (BAD, BAD)), OPTIONS[1]), (('front', ()), ('pay', ()))]
SOME_QUESTIONS = ((0, 0, 1),)
NO_ASKED = [(), 0, [(0, 0, 1)], (0, 0, 1), ((0, 0, 1), (0, 0)), ((0, 0, 1), [0, 0, 1]), ((0, 0, True),), ((0, 0, 1), None),
            ((0, 0, 1, 1),), (((0, 0, 1),),), ((),)]


def random_options(chance, kinds, most=24):
    """Options with at most so many choices."""
    services = sorted(set().union(*[names_in(kind) for kind in kinds]))
    found, many = [], 1
    for service in services:
        rules = []
        for _ in range(chance.randint(1, 4)):
            rule = random_rule(chance)
            if rule not in rules and many * (len(rules) + 1) <= most:
                rules.append(rule)
        many *= len(rules)
        found.append((service, tuple(rules)))
    return tuple(found)


def all_choices(options):
    return list(product(*[range(len(rules)) for _, rules in options]))


def by_choice(options, choice):
    return tuple((service, rules[k]) for (service, rules), k in zip(options, choice))


def cost(kinds, rules, crowd):
    """The average number of kept spans, by trying all draws."""
    def spans(sight):
        return sum(len(oracle.all_paths(tree)) for word, held in sight for tree in ([held] if word == 'top' else held))
    return sum((number * chance * spans(sight) for kind, number in zip(kinds, crowd)
                for sight, chance in oracle.sight_chances(kind, rules).items()), Fraction(0))


def best(kinds, options, crowd, questions):
    good = [(cost(kinds, by_choice(options, choice), crowd), choice) for choice in all_choices(options)
            if all(oracle.told(kinds, by_choice(options, choice), question) for question in questions)]
    if not good:
        return None
    least = min(good)[0]
    return oracle.pair(least), tuple(choice for one, choice in good if one == least)


class CostOf(Case):

    def test_example(self):
        self.gives((5, 2), cost_of, KINDS, RULES, ONES)

    def test_by_hand(self):
        self.gives((0, 1), cost_of, KINDS, RULES, (0, 0, 0))
        self.gives((0, 1), cost_of, KINDS, (('front', NEVER), ('pay', ('caller',))), (9, 9, 9))
        self.gives((7, 1), cost_of, KINDS, (('front', ALL), ('pay', ('caller',))), (1, 2, 1))
        self.gives((BIG, 3), cost_of, KINDS, (('front', ('shared', 2, 6)), ('pay', BAD)), (0, BIG, 0))
        self.gives((4, 3), cost_of, KINDS, (('front', ('shared', 1, 3)), ('pay', BAD)), (0, 0, 1))

    def test_as_defined(self):
        for chance, kinds, rules in setups(54, 60):
            crowd = tuple(chance.choice([0, 1, 7, 99, 10 ** 20]) for _ in kinds)
            wanted = cost(kinds, rules, crowd)
            self.gives(oracle.pair(wanted), cost_of, kinds, rules, crowd)
            self.assertEqual(wanted, sum(Fraction(*often) for _, often in kept_spans(kinds, rules, crowd)))

    def test_no_crowds(self):
        for thing in strange_values() + NO_QUESTIONS + [(1, 2, -1), (0, 0, -BIG)]:
            self.fails(NotUsable('crowd', -1), cost_of, KINDS, RULES, thing)


class ChosenRules(Case):

    def test_choices(self):
        self.gives(RULES, chosen_rules, KINDS, OPTIONS, (0, 0))
        self.gives((('front', ('own', 1, 2)), ('pay', ALL)), chosen_rules, KINDS, OPTIONS, (0, 1))
        self.gives((('front', NEVER), ('pay', BAD)), chosen_rules, KINDS, OPTIONS, (1, 0))
        self.gives((('front', NEVER), ('pay', ALL)), chosen_rules, KINDS, OPTIONS, (1, 1))
        self.gives((('front', BAD),), chosen_rules, (ALONE,), (('front', (BAD,)),), (0,))
        for chance, kinds, _ in setups(541, 30):
            options = random_options(chance, kinds)
            for choice in all_choices(options):
                self.gives(by_choice(options, choice), chosen_rules, kinds, options, choice)

    def test_rules_that_do_the_same_are_distinct(self):
        options = (('front', (('own', 1, 2), ('own', 2, 4), ('or', NEVER, ('own', 1, 2)), ('or', ('own', 1, 2), NEVER))),)
        self.gives((('front', ('own', 2, 4)),), chosen_rules, (ALONE,), options, (1,))
        self.gives((('front', ('or', ('own', 1, 2), NEVER)),), chosen_rules, (ALONE,), options, (3,))

    def test_no_choices(self):
        for thing in strange_values() + [(), (0,), (0, 0, 0), [0, 0], (0, 2), (2, 0), (-1, 0), (0, -1), (True, 0), (0, False),
                                         (0, None), (0, '0'), ((0, 0),), (0, (0,)), 'ab', OPTIONS]:
            self.fails(NotUsable('choice', -1), chosen_rules, KINDS, OPTIONS, thing)
            for options in ((), NO_OPTIONS[-1]):
                self.fails(NotUsable('options', -1), chosen_rules, KINDS, options, thing)

    def test_no_options(self):
        for thing in strange_values() + NO_OPTIONS:
            self.fails(NotUsable('options', -1), chosen_rules, KINDS, thing, (0, 0))

    def test_spoiled_options(self):
        chance = random.Random(542)
        found = {True: 0, False: 0}
        for _ in range(1500):
            thing = spoiled(chance, OPTIONS, ['pay', 'front', BAD, NEVER, ('own', 2, 4), OPTIONS[0]])
            good = (type(thing) is tuple and [pair[0] if type(pair) is tuple and len(pair) == 2 else 0 for pair in thing]
                    == ['front', 'pay']
                    and all(type(rules) is tuple and rules and all(map(is_rule, rules)) and len(set(rules)) == len(rules)
                            for _, rules in thing))
            found[bool(good)] += 1
            if good:
                self.gives(by_choice(thing, (0, 0)), chosen_rules, KINDS, thing, (0, 0))
            else:
                self.fails(NotUsable('options', -1), chosen_rules, KINDS, thing, (0, 0))
        self.assertGreater(min(found.values()), 100)


class Cheapest(Case):

    def test_example(self):
        self.gives(((1, 1), ((1, 0),)), cheapest, KINDS, OPTIONS, ONES, ((0, 0, 1),))
        self.gives(((5, 2), ((0, 0),)), cheapest, KINDS, OPTIONS, ONES, ((1, 1, 0),))

    def test_by_hand(self):
        kinds = (ALONE, FINE)
        options = (('front', (NEVER,)), ('pay', (ALL, NEVER)))
        self.gives(((3, 1), ((0, 0),)), cheapest, kinds, options, (2, 3), ((0, 1),))
        self.gives(None, cheapest, kinds, options, (2, 3), ((1, 0),))
        self.gives(None, cheapest, kinds, options, (2, 3), ((0, 1), (1, 0)))
        self.gives(((0, 1), ((0, 1),)), cheapest, kinds, options, (2, 3), ((0, 0),))

    def test_several_of_one_cost(self):
        options = (('front', (('own', 2, 4), ALL, ('own', 1, 2), ('or', ('own', 1, 2), NEVER))), ('pay', (ALL, BAD, ('late',))))
        self.gives(((5, 2), ((0, 1), (0, 2), (2, 1), (2, 2), (3, 1), (3, 2))), cheapest, KINDS, options, ONES, ((2, 2, -9),))
        # Without traces every choice costs nothing.
        self.gives(((0, 1), ((0, 0), (0, 1), (1, 0), (1, 1))), cheapest, KINDS, OPTIONS, (0, 0, 0), ((0, 0, 1),))
        self.gives(((0, 1), ((0, 0), (0, 1))), cheapest, KINDS, OPTIONS, (0, 0, 0), ((1, 1, 1),))

    def test_one_choice(self):
        options = tuple((service, (rule,)) for service, rule in RULES)
        self.gives(((5, 2), ((0, 0),)), cheapest, KINDS, options, ONES, ((1, 1, 0), (0, 0, 1), (1, 1, 0)))
        self.gives(None, cheapest, KINDS, options, ONES, ((1, 1, 0), (1, 0, 0)))
        self.gives(((BIG, 2), ((0,),)), cheapest, (ALONE,), (('front', (('own', 3, 6),)),), (BIG,), ((-BIG,),))

    def test_as_defined(self):
        counts = {True: 0, False: 0}
        for chance, kinds, _ in setups(55, 100, size=3, kinds=4):
            options = random_options(chance, kinds)
            crowd = tuple(chance.choice([0, 1, 2, 99]) for _ in kinds)
            questions = tuple(tuple(chance.choice([0, 0, 1, 2, -9]) for _ in kinds) for _ in range(chance.randint(1, 2)))
            wanted = best(kinds, options, crowd, questions)
            counts[wanted is None] += 1
            self.gives(wanted, cheapest, kinds, options, crowd, questions)
            # Questions that are alike, and more questions: [60].
            self.gives(wanted, cheapest, kinds, options, crowd, questions + questions[::-1])
            more = cheapest(kinds, options, crowd, questions + ((1,) * len(kinds),))
            if more is not None:
                self.assertLessEqual(Fraction(*wanted[0]), Fraction(*more[0]))
            # With fewer options they are no cheaper.
            fewer = tuple((service, rules[:1]) for service, rules in options)
            dearer = cheapest(kinds, fewer, crowd, questions)
            if dearer is not None:
                self.assertLessEqual(Fraction(*wanted[0]), Fraction(*dearer[0]))
        self.assertGreater(min(counts.values()), 10)

    def test_twenty_four_choices(self):
        chance = random.Random(551)
        kinds = random_kinds(chance, 4, 3, 'ab')
        services = sorted(set().union(*[names_in(kind) for kind in kinds]))
        self.assertEqual(['a', 'b'], services)
        options = (('a', (NEVER, BAD, ('own', 1, 3), ('shared', 1, 2), ('late',), ALL)),
                   ('b', (('caller',), ('or', BAD, ('own', 1, 4)), ('own', 2, 3), NEVER)))
        for questions in (((1,) * len(kinds),), ((0,) * len(kinds),), (tuple(range(len(kinds))), (1,) * len(kinds))):
            crowd = tuple(range(1, len(kinds) + 1))
            self.gives(best(kinds, options, crowd, questions), cheapest, kinds, options, crowd, questions)

    def test_not_usable(self):
        for thing in strange_values() + NO_OPTIONS:
            self.fails(NotUsable('options', -1), cheapest, KINDS, thing, ONES, SOME_QUESTIONS)
            self.fails(NotUsable('options', -1), cheapest, KINDS, thing, thing, thing)
        for thing in strange_values() + NO_QUESTIONS + [(1, 2, -1)]:
            self.fails(NotUsable('crowd', -1), cheapest, KINDS, OPTIONS, thing, SOME_QUESTIONS)
            self.fails(NotUsable('crowd', -1), cheapest, KINDS, OPTIONS, thing, ())
        for thing in strange_values() + NO_ASKED + [SOME_QUESTIONS + (one,) for one in NO_QUESTIONS]:
            self.fails(NotUsable('questions', -1), cheapest, KINDS, OPTIONS, ONES, thing)
