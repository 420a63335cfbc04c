"""[11], by [2] to [5]: whether any value is what the definitions say."""

import random

from tests.support import ALONE, BIG, FINE, KINDS, RULES, WRONG, Case, nested, random_kinds, random_rule
from tests.support import strange_values
from thinspans.kinds import (
    is_fraction, is_integer, is_kinds, is_name, is_number, is_plain, is_rule, is_sight, is_tree)
from thinspans.sighting import sights_of

LEAF, BAD_LEAF = ('pay', 0, ()), ('pay', 1, ())


def deep_tree(levels):
    tree = LEAF
    for _ in range(levels):
        tree = ('a', 0, (tree,))
    return tree


class Kinds(Case):

    def holds(self, function, things):
        for thing in things:
            self.gives(True, function, thing)

    def holds_not(self, function, things):
        for thing in things:
            self.gives(False, function, thing)

    def holds_only(self, function, yes):
        """Of the strange values, just these."""
        for thing in strange_values():
            self.gives(any(type(thing) is type(good) and thing == good for good in yes), function, thing)

    def test_example(self):
        self.gives(False, is_fraction, (2, 4))
        self.gives(True, is_kinds, KINDS)
        self.gives(True, is_rule, ('or', ('bad',), ('own', 0, 3)))
        self.gives(False, is_sight, (('lost', (WRONG, ALONE)),))

    def test_integers(self):
        self.holds(is_integer, [0, 1, -1, BIG, -BIG, 10 ** 300])
        self.holds_only(is_integer, [-1, -7, BIG, -BIG])

    def test_numbers(self):
        self.holds(is_number, [0, 1, BIG, 10 ** 300])
        self.holds_not(is_number, [-1, -BIG, True, False])
        self.holds_only(is_number, [BIG])

    def test_names(self):
        self.holds(is_name, ['a', 'z', 'abcdefgh', 'zzzzzzzz', 'front', 'never', 'or'])
        self.holds_not(is_name, ['', 'abcdefghi', 'A', 'aB', 'a1', 'a_b', 'a b', ' a', 'a ', 'a\n', '\n', '`', '{', 'a-',
                                 ('a',), ['a'], ('a', 'b')])
        self.holds_only(is_name, ['a', 'abcdefgh', 'own', 'shared', 'never', 'or', 'top', 'lost', 'caller', 'bad', 'late'])

    def test_fractions(self):
        self.holds(is_fraction, [(0, 1), (1, 1), (-1, 1), (-3, 2), (BIG, 1), (1, BIG), (-BIG, BIG + 1), (7, 12)])
        self.holds_not(is_fraction, [
            (2, 4), (0, 2), (0, 0), (1, 0), (0, -1), (1, -1), (-1, -2), (BIG, BIG), (-2, 2), (3, -BIG),
            (True, 1), (1, True), (False, 1), (True, True), [0, 1], (0,), (0, 1, 1), (), 0, 1, ('0', '1'), (None, 1)])
        self.holds_only(is_fraction, [])

    def test_trees(self):
        self.holds(is_tree, [ALONE, FINE, WRONG, ('a', 1, (LEAF, LEAF, BAD_LEAF)), deep_tree(12), deep_tree(150),
                             ('a', 0, (('b', 0, (LEAF, BAD_LEAF)), ('b', 1, ()), ('b', 1, (LEAF,)), ('bb', 0, ())))])
        self.holds_not(is_tree, [
            ('a', 2, ()), ('a', -1, ()), ('a', BIG, ()), ('a', True, ()), ('a', False, ()), ('a', '0', ()), ('a', None, ()),
            ('A', 0, ()), ('', 0, ()), ('abcdefghi', 0, ()), (0, 0, ()), (('a',), 0, ()),
            ('a', 0, []), ('a', 0), ('a', 0, (), ()), ['a', 0, ()], ('a', 0, LEAF), ('a', 0, None), ('a', 0, ((),)), (),
            ('a', 0, (BAD_LEAF, LEAF)), ('a', 0, (('b', 0, (LEAF,)), ('b', 0, ()))), ('a', 0, (['pay', 0, ()],)),
            ('a', 0, (('b', 0, (('c', True, ()),)),)), ('a', 0, (('b', 0, (BAD_LEAF, LEAF)),)), ('a', 0, (LEAF, None)),
            ('a', 0, (('b', 0, (('c', 3, ()),)),)), nested(40, LEAF), KINDS])
        self.holds_only(is_tree, [])

    def test_kinds(self):
        self.holds(is_kinds, [KINDS, (ALONE,), (LEAF, BAD_LEAF), (deep_tree(100),)])
        self.holds_not(is_kinds, [
            (), [], list(KINDS), KINDS[::-1], (ALONE, ALONE), (ALONE, FINE, FINE, WRONG), (ALONE, WRONG, FINE), ALONE,
            (ALONE, None), (None,), (ALONE, list(FINE)), (ALONE, ('front', True, ())), (('a', 0, (BAD_LEAF, LEAF)),), ((),)])
        self.holds_only(is_kinds, [])

    def test_plain_rules(self):
        self.holds(is_plain, [('never',), ('caller',), ('bad',), ('late',), ('own', 0, 1), ('own', 1, 1), ('own', 2, 4),
                              ('shared', 0, 3), ('shared', 3, 3), ('shared', 6, 12), ('own', BIG, BIG), ('own', 1, BIG)])
        self.holds_not(is_plain, [
            (), ('own',), ('own', 1), ('own', 1, 2, 3), ('own', 2, 1), ('own', 0, 0), ('own', 1, 0), ('own', -1, 2),
            ('own', -2, -1), ('own', 0, -1), ('own', True, 1), ('own', 1, True), ('own', False, 1), ('own', '0', '1'),
            ('own', BIG + 1, BIG), ('shared', 3, 2), ('shared', None, 1), ('shared', 1, None), ('shared', (1,), 2),
            ['never'], ['own', 1, 2], 'never', ('never', 0), ('never', 0, 1), ('bad', 1, 2), ('late', ()), ('caller', None),
            ('Never',), ('all',), (None,), (('never',),), (0,), ('or', ('bad',), ('late',))])
        self.holds_only(is_plain, [])

    def test_rules(self):
        self.holds(is_rule, [rule for _, rule in RULES])
        self.holds(is_rule, [('never',), ('own', 2, 4), ('shared', 0, 1), ('caller',), ('bad',), ('late',),
                             ('or', ('own', 1, 2), ('own', 1, 2)), ('or', ('own', 1, 2), ('shared', 1, 3)),
                             ('or', ('never',), ('never',)), ('or', ('late',), ('caller',))])
        self.holds_not(is_rule, [
            ('or',), ('or', ('bad',)), ('or', ('bad',), ('late',), ('caller',)), ('or', 1, 2), ['or', ('bad',), ('late',)],
            ('or', ('or', ('bad',), ('late',)), ('bad',)), ('or', ('bad',), ('or', ('bad',), ('late',))),
            ('or', ('bad',), ('own', 3, 2)), ('or', ('own', 1, 0), ('bad',)), ('or', ['bad'], ('late',)),
            ('or', ('bad',), ['late']), ('or', ('own', True, 1), ('bad',)), ('or', ('bad',), None), ('and', ('bad',), ('late',)),
            ('own', 2, 1), ('own', 1, 0), ()])
        self.holds_only(is_rule, [])

    def test_sights(self):
        lost, far = ('lost', (LEAF,)), ('lost', (LEAF, LEAF, BAD_LEAF))
        self.holds(is_sight, [(), (('top', FINE),), (lost,), (lost, lost), (lost, far), (lost, far, ('top', ALONE))])
        self.holds_not(is_sight, [
            (('top', ALONE), ('top', FINE)), (('top', ALONE), ('top', ALONE)), (('lost', ()),), (('lost', (BAD_LEAF, LEAF)),),
            (('lost', (WRONG, ALONE)),), (far, lost), (('top', ALONE), lost), (('lost', LEAF),), (('lost', [LEAF]),),
            (('top', (ALONE,)),), (('top',),), (('top', ALONE, ()),), ('top', ALONE), [('top', ALONE)], (['top', ALONE],),
            (('Top', ALONE),), (('kept', ALONE),), (('kept', (LEAF,)),), (('', (LEAF,)),), ((0, (LEAF,)),), (('Lost', (LEAF,)),),
            (('top', (LEAF,)),), ((0, ALONE),), ((None, None),), (('top', None),), (('lost', None),),
            (('top', ('front', True, ())),), (('lost', (('pay', False, ()),)),), (lost, None), ((),), (('lost', (LEAF, None)),),
            (('top', ('front', 0, (BAD_LEAF, LEAF))),), (('lost', (('pay', 2, ()),)),)])
        self.holds_only(is_sight, [])

    def test_what_the_package_makes_and_what_checkers_say(self):
        chance = random.Random(11)
        for _ in range(60):
            kinds = random_kinds(chance, 3, 5)
            self.gives(True, is_kinds, kinds)
            services = sorted({'a', 'b', 'c', 'd'})
            rules = tuple((service, random_rule(chance)) for service in services)
            for sight, fraction in sights_of(kinds[0], rules):
                self.gives(True, is_sight, sight)
                self.gives(True, is_fraction, fraction)
