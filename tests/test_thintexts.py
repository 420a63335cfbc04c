"""[18]: span trees, rules, sights and setups as texts."""

import random

from tests.support import ALONE, BIG, FINE, KINDS, RULES, WRONG, Case, random_kinds, random_rules, random_tree, setups
from thinspans.sighting import all_sights
from thinspans.thintexts import (
    fraction_text, question_text, rules_text, setup_text, sight_text, tree_text)


def chain(spans, mark=0):
    """So many spans in a row."""
    tree = ('z', mark, ())
    for _ in range(spans - 1):
        tree = ('a', mark, (tree,))
    return tree


def written_tree(tree):
    calls = '(' + ','.join(written_tree(call) for call in tree[2]) + ')' if tree[2] else ''
    return tree[0] + '!' * tree[1] + calls


def written_rule(rule):
    if rule[0] == 'or':
        return written_rule(rule[1]) + '+' + written_rule(rule[2])
    return rule[0] + ''.join(sign + str(number) for sign, number in zip(':/', rule[1:]))


def written_rules(rules):
    return ';'.join(service + '=' + written_rule(rule) for service, rule in rules) or '-'


def written_sight(sight):
    return '|'.join('^' + written_tree(held) if word == 'top' else '?' + ','.join(map(written_tree, held))
                    for word, held in sight) or '-'


class Trees(Case):

    def test_by_hand(self):
        self.gives('front', tree_text, ALONE)
        self.gives('front(pay)', tree_text, FINE)
        self.gives('front(pay!)', tree_text, WRONG)
        self.gives('abcdefgh!', tree_text, ('abcdefgh', 1, ()))
        self.gives('a!(a,a,a!(b(c,c)),d(e!))', tree_text, (
            'a', 1, (('a', 0, ()), ('a', 0, ()), ('a', 1, (('b', 0, (('c', 0, ()), ('c', 0, ()))),)), ('d', 0, (('e', 1, ()),)))))

    def test_in_a_row(self):
        self.gives('a(' * 29 + 'z' + ')' * 29, tree_text, chain(30))
        self.gives('a!(' * 29 + 'z!' + ')' * 29, tree_text, chain(30, 1))
        # Deeper than can be read, as the package may return them.
        self.assertEqual('a!(' * 1999 + 'z!' + ')' * 1999, tree_text(chain(2000, 1)))

    def test_many_calls(self):
        self.gives('a(' + ','.join(['b'] * 300) + ')', tree_text, ('a', 0, (('b', 0, ()),) * 300))

    def test_random_trees(self):
        chance = random.Random(18)
        trees = [random_tree(chance, chance.randint(1, 9), 'ab') for _ in range(300)]
        for tree in trees:
            self.gives(written_tree(tree), tree_text, tree)
        # Different trees have different texts.
        self.assertEqual(len(set(trees)), len({tree_text(tree) for tree in trees}))


class Rules(Case):

    def test_example(self):
        self.gives('front=own:1/2;pay=bad', rules_text, RULES)

    def test_words(self):
        for rule, text in [
                (('never',), 'never'), (('own', 1, 2), 'own:1/2'), (('own', 2, 4), 'own:2/4'), (('own', 0, 3), 'own:0/3'),
                (('shared', 12, 12), 'shared:12/12'), (('shared', 0, 1), 'shared:0/1'), (('caller',), 'caller'),
                (('bad',), 'bad'), (('late',), 'late'), (('own', BIG - 1, BIG), f'own:{BIG - 1}/{BIG}'),
                (('or', ('bad',), ('own', 0, 3)), 'bad+own:0/3'), (('or', ('own', 1, 1), ('shared', 1, 3)), 'own:1/1+shared:1/3'),
                (('or', ('late',), ('late',)), 'late+late'), (('or', ('never',), ('caller',)), 'never+caller')]:
            self.gives('a=' + text, rules_text, (('a', rule),))
            self.gives(f'a={text};bcdefghi={text}', rules_text, (('a', rule), ('bcdefghi', rule)))

    def test_none_and_in_any_order(self):
        self.gives('-', rules_text, ())
        self.gives('b=bad;a=never;b=late', rules_text, (('b', ('bad',)), ('a', ('never',)), ('b', ('late',))))
        self.gives('a=bad;a=bad', rules_text, (('a', ('bad',)), ('a', ('bad',))))

    def test_random_rules(self):
        for chance, kinds, rules in setups(181, 100):
            self.gives(written_rules(rules), rules_text, rules)


class Sights(Case):

    def test_example(self):
        self.gives('?front(pay),front(pay!)|^front', sight_text, (('lost', (FINE, WRONG)), ('top', ALONE)))

    def test_by_hand(self):
        self.gives('-', sight_text, ())
        self.gives('^front(pay!)', sight_text, (('top', WRONG),))
        self.gives('?front', sight_text, (('lost', (ALONE,)),))
        self.gives('?front,front|?front|^front(pay)', sight_text, (('lost', (ALONE, ALONE)), ('lost', (ALONE,)), ('top', FINE)))
        self.gives('?front|?front', sight_text, (('lost', (ALONE,)),) * 2)
        deep = chain(30)
        self.gives(f'?{tree_text(deep)},{tree_text(deep)}|^{tree_text(deep)}', sight_text, (('lost', (deep, deep)), ('top', deep)))

    def test_random_sights(self):
        for chance, kinds, rules in setups(182, 60):
            sights = all_sights(kinds, rules)
            for sight in sights:
                self.gives(written_sight(sight), sight_text, sight)
            self.assertEqual(len(sights), len({sight_text(sight) for sight in sights}))


class Setups(Case):

    def test_by_hand(self):
        self.gives('kind front\nkind front(pay)\nkind front(pay!)\nrules front=own:1/2;pay=bad', setup_text, KINDS, RULES)
        self.gives('kind front\nrules front=never', setup_text, (ALONE,), (('front', ('never',)),))

    def test_as_the_readers_return(self):
        self.gives('rules -', setup_text, (), ())
        self.gives('rules a=bad', setup_text, (), (('a', ('bad',)),))
        self.gives('kind front(pay!)\nkind front\nkind front\nrules -', setup_text, (WRONG, ALONE, ALONE), ())
        self.gives('kind front\nrules pay=bad;a=late;pay=bad', setup_text, (ALONE,),
                   (('pay', ('bad',)), ('a', ('late',)), ('pay', ('bad',))))

    def test_random_setups(self):
        chance = random.Random(183)
        for _ in range(40):
            kinds = random_kinds(chance, 5, 5)
            rules = random_rules(chance, kinds)
            lines = ['kind ' + written_tree(kind) for kind in kinds] + ['rules ' + written_rules(rules)]
            self.gives('\n'.join(lines), setup_text, kinds, rules)


class Numbers(Case):

    def test_questions_and_fractions(self):
        self.gives('1,-2,0', question_text, (1, -2, 0))
        self.gives(str(-BIG), question_text, (-BIG,))
        for fraction, text in [((0, 1), '0'), ((-3, 1), '-3'), ((7, 2), '7/2'), ((-1, 12), '-1/12'), ((1, BIG), f'1/{BIG}')]:
            self.gives(text, fraction_text, fraction)
