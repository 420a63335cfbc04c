"""[12] and [13], with [3], [4] and [15]; the last sentences of [10]."""

import random

from tests.support import (
    ALONE, BIG, FINE, KINDS, RULES, WRONG, Case, nested, random_kinds, random_rule, random_rules, random_tree, spoiled,
    strange_values)
from thinspans.errors import InvalidPaper
from thinspans.kinds import is_kinds, is_rule
from thinspans.kindchecker import lets_kinds, lets_rules
from thinspans.trees import services_of, size_of

LEAF, BAD_LEAF = ('b', 0, ()), ('b', 1, ())


def invalid(word, at=-1):
    return InvalidPaper(word, at)


def ways(chance):
    return ['b', 'own', 'or', 'abcdefghi', LEAF, random_tree(chance, 2)]


class LetsKinds(Case):

    def no_shape(self, *things):
        for thing in things:
            self.fails(invalid('shape'), lets_kinds, thing)

    def test_example(self):
        self.gives(5, lets_kinds, KINDS)
        self.fails(invalid('mark', (0, (0,))), lets_kinds, (('front', 0, (('pay', 2, ()),)),))

    def test_kinds(self):
        self.gives(1, lets_kinds, (ALONE,))
        self.gives(4, lets_kinds, (('a', 0, (LEAF, LEAF, BAD_LEAF)),))
        chance = random.Random(12)
        for _ in range(30):
            kinds = random_kinds(chance, 4, 6)
            self.gives(sum(size_of(kind) for kind in kinds), lets_kinds, kinds)

    def test_shape(self):
        self.no_shape(*strange_values())
        self.no_shape(0, list(KINDS), ALONE, (None,), (KINDS,), ((),), (('a', 0),), (('a', 0, (), ()),), (['a', 0, ()],),
                      ((('a',), 0, ()),), ((None, 0, ()),), (('a', '0', ()),), (('a', None, ()),), (('a', 0, None),),
                      (('a', 0, []),), (('a', 0, LEAF),), (('a', 0, (None,)),), (('a', 0, ([],)),), nested(40, 0))

    def test_true_is_no_integer(self):
        for mark in (True, False):
            self.no_shape((('a', mark, ()),), (ALONE, ('front', 0, (('pay', mark, ()),))), (('a', 0, (('b', 0, (('c', mark, ()),)),)),))

    def test_shape_deep_and_ahead_of_all(self):
        for wrong in (None, [], ('b', 0), ('b', True, ()), ('b', 0, []), (0, 0, ()), 7):
            deep = ('a', 0, (LEAF, ('b', 0, (BAD_LEAF, wrong))))
            self.no_shape((deep,), (ALONE, deep), (('', 2, ()), deep), (ALONE, ALONE, deep), (('a', 0, (BAD_LEAF, LEAF)), deep))

    def test_none(self):
        self.fails(invalid('none'), lets_kinds, ())

    def test_service(self):
        for name in ('', 'abcdefghi', 'A', 'a1', 'a b', 'a\n', ' ', '~', 'x' * 4000):
            self.fails(invalid('service', (0, ())), lets_kinds, ((name, 0, ()),))
            self.fails(invalid('service', (1, ())), lets_kinds, (ALONE, (name, 0, ())))
            self.fails(invalid('service', (0, (1, 0))), lets_kinds, (('a', 0, (LEAF, ('b', 1, ((name, 0, ()),)))),))

    def test_mark(self):
        for mark in (2, -1, BIG, -BIG):
            self.fails(invalid('mark', (0, ())), lets_kinds, (('a', mark, ()),))
            self.fails(invalid('mark', (1, (0,))), lets_kinds, (ALONE, ('front', 0, (('b', mark, ()),))))

    def test_order(self):
        self.fails(invalid('order', (0, ())), lets_kinds, (('a', 0, (BAD_LEAF, LEAF)),))
        self.fails(invalid('order', (0, (0,))), lets_kinds, (('a', 0, (('a', 0, (LEAF, BAD_LEAF, LEAF)),)),))
        self.fails(invalid('order', (1, (0, 1))), lets_kinds,
                   (ALONE, ('front', 0, (('a', 0, (LEAF, ('c', 0, (('b', 0, (LEAF,)), LEAF)))),))))
        self.gives(4, lets_kinds, (('a', 0, (LEAF, LEAF, LEAF)),))

    def test_rise(self):
        self.fails(invalid('rise', 1), lets_kinds, (ALONE, ALONE))
        self.fails(invalid('rise', 1), lets_kinds, KINDS[::-1])
        self.fails(invalid('rise', 2), lets_kinds, (ALONE, WRONG, FINE))
        self.fails(invalid('rise', 3), lets_kinds, KINDS + (ALONE,))
        self.fails(invalid('rise', 3), lets_kinds, KINDS + (WRONG, WRONG))

    def test_all_of_one_span_before_the_next(self):
        self.fails(invalid('service', (0, ())), lets_kinds, (('', 2, (BAD_LEAF, LEAF)),))
        self.fails(invalid('mark', (0, ())), lets_kinds, (('a', 2, (BAD_LEAF, LEAF)),))
        self.fails(invalid('order', (0, ())), lets_kinds, (('a', 0, (('b', 1, ()), ('', 7, ()))),))
        self.fails(invalid('mark', (0, (0,))), lets_kinds, (('a', 0, (('b', 2, ()), ('c', 0, (('', 0, ()),)))),))
        self.fails(invalid('service', (0, (0, 0))), lets_kinds, (('a', 0, (('b', 0, (('', 9, ()),)), ('c', 2, ()))),))

    def test_all_of_one_kind_before_the_next(self):
        self.fails(invalid('mark', (0, (0,))), lets_kinds, (('a', 0, (('b', 2, ()),)), ('', 0, ())))
        self.fails(invalid('rise', 1), lets_kinds, (FINE, ALONE, ('', 5, ())))
        self.fails(invalid('mark', (1, ())), lets_kinds, (FINE, ('a', 3, ()), ALONE))
        self.fails(invalid('order', (1, ())), lets_kinds, (FINE, ('a', 0, (BAD_LEAF, LEAF)), ALONE))
        self.fails(invalid('service', (2, (0,))), lets_kinds, (ALONE, FINE, ('front', 0, (('', 0, ()),))))
        self.fails(invalid('rise', 1), lets_kinds, (ALONE, ALONE, ('front', 0, (('', 0, ()),))))


class LetsRules(Case):

    def test_example(self):
        self.gives(2, lets_rules, KINDS, RULES)

    def test_rules(self):
        self.gives(1, lets_rules, (ALONE,), (('front', ('or', ('bad',), ('own', 2, 4))),))
        chance = random.Random(13)
        for _ in range(30):
            kinds = random_kinds(chance, 3, 5)
            rules = random_rules(chance, kinds)
            self.gives(len(services_of(kinds)), lets_rules, kinds, rules)

    def test_shape(self):
        never = ('never',)
        for thing in strange_values() + [
                0, list(RULES), RULES + (None,), (RULES[0], list(RULES[1])), (RULES[0], ('pay', ['bad'])), (RULES[0], ('pay',)),
                (RULES[0], ('pay', never, never)), (RULES[0], (0, never)), (RULES[0], (('pay',), never)),
                (RULES[0], ('pay', 'bad')), (RULES[0], ('pay', None)), ('front', never), dict(RULES),
                # The shape comes ahead of the number of pairs, and of each pair.
                (('zzz', ()), ('x', 0), ('y', never)), (('pay', 7),)]:
            self.fails(invalid('shape'), lets_rules, KINDS, thing)

    def test_many(self):
        for thing in [(), RULES[:1], RULES[1:], RULES + RULES[:1], RULES + (('z', ('never',)),), (('', ()),), (('', ()),) * 3,
                      (RULES[0],) * 3]:
            self.fails(invalid('many'), lets_rules, KINDS, thing)

    def test_service(self):
        front, pay = RULES
        for thing, at in [((pay, front), 0), ((front, front), 1), ((pay, pay), 0), ((front, ('paid', ('bad',))), 1),
                          ((front, ('', ())), 1), ((('Front', ()), pay), 0), ((('', ()), ('', ())), 0)]:
            self.fails(invalid('service', at), lets_rules, KINDS, thing)

    def test_rule(self):
        front, pay = RULES
        for rule in [(), ('all',), ('own', 1, 0), ('own', 2, 1), ('own', True, 1), ('or', ('bad',)), ('bad', 1), (None,), ((),),
                     ('or', ('or', ('bad',), ('bad',)), ('bad',)), ('own', -1, 2), nested(39, 0), ('own', 1, True)]:
            self.fails(invalid('rule', 1), lets_rules, KINDS, (front, ('pay', rule)))
            # All checks of one pair come ahead of those of the next one.
            self.fails(invalid('rule', 0), lets_rules, KINDS, (('front', rule), ('', rule)))
            self.fails(invalid('service', 0), lets_rules, KINDS, (('fron', rule), ('pay', rule)))


class AsTheKindsSay(Case):

    def test_spoiled_values_as_the_checkers_find_them(self):
        chance = random.Random(12)
        found = {True: 0, False: 0}
        for _ in range(1500):
            kinds = spoiled(chance, random_kinds(chance, 2, 4), ways(chance))
            try:
                lets_kinds(kinds)
                good = True
            except InvalidPaper:
                good = False
            found[good] += 1
            self.assertIs(good, is_kinds(kinds), repr(kinds))
        self.assertGreater(min(found.values()), 50)
        for _ in range(800):
            rule = spoiled(chance, random_rule(chance), ways(chance))
            try:
                lets_rules((ALONE,), (('front', rule),))
                good = True
            except InvalidPaper:
                good = False
            self.assertIs(good, is_rule(rule), repr(rule))
