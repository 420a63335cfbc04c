"""[32], with [4], [5] and [22] to [24]: draws_for; what follows, the first sentence of [33]."""

from fractions import Fraction
from itertools import combinations

from tests import oracle
from tests.support import ALONE, BIG, FINE, KINDS, RULES, WRONG, Case, random_tree, setups, strange_values
from thinspans.drawchecker import lets_draws
from thinspans.drawpapers import draws_for
from thinspans.kinds import is_fraction
from thinspans.sighting import chance_of, sights_of

ZERO, HALF = (0, 1), (1, 2)
TOP, PAY = (('top', ALONE),), (('lost', (('pay', 1, ()),)),)
PLAINS = [('never',), ('own', 0, 2), ('own', 2, 4), ('own', 3, 3), ('shared', 0, 5), ('shared', 2, 4), ('shared', 1, 3), ('shared', 7, 7),
          ('caller',), ('bad',), ('late',)]
EVERY_RULE = PLAINS + [('or', one, other) for one in PLAINS for other in PLAINS]
# Sights by their looks, with True and False for marks.
NO_MARKS = [(('top', ('front', False, ())),), (('lost', (('pay', True, ()),)),), (('top', ('front', False, (('pay', True, ()),))),),
            (('top', ('front', 0, (('pay', True, ()),))),)]


def kept_by_draws(tree, rules, draw, pairs):
    """The set of the kept paths, as [4] and [23] say it."""
    luck = {}
    for (path, service, _), pair in zip(sorted(oracle.all_paths(tree)), pairs):
        for which, plain in enumerate(oracle.plain_rules(dict(rules)[service])):
            luck[path, which] = plain[0] == 'own' and Fraction(*pair[which]) < Fraction(*plain[1:])
    return oracle.kept_for(tree, rules, Fraction(*draw), luck)


def all_kept_sights(tree):
    """The sights of the tree for all sets of kept spans."""
    paths = [path for path, _, _ in oracle.all_paths(tree)]
    return sorted({oracle.kept_sight(tree, set(kept)) for many in range(len(paths) + 1) for kept in combinations(paths, many)})


class DrawsFor(Case):

    def leads(self, tree, rules, sight):
        """That there are draws, and that they lead to the sight."""
        thing = draws_for(tree, rules, sight)
        self.gives(thing, draws_for, tree, rules, sight)
        self.assertIs(tuple, type(thing))
        draw, pairs = thing
        self.assertEqual((tuple, len(oracle.all_paths(tree))), (type(pairs), len(pairs)))
        for pair in pairs:
            self.assertEqual((tuple, 2), (type(pair), len(pair)))
        for part in [draw] + [part for pair in pairs for part in pair]:
            self.is_plain_fraction(part)
            self.assertTrue(is_fraction(part) and 0 <= part[0] < part[1])
        kept = kept_by_draws(tree, rules, draw, pairs)
        self.assertEqual(sight, oracle.kept_sight(tree, kept))
        self.gives(tuple(sorted(kept)), lets_draws, tree, rules, sight, thing)

    def settles(self, tree, rules, sights):
        """Which of the sights there are draws for, by their chances; returns how many there are and are not."""
        known = oracle.sight_chances(tree, rules)
        found = [0, 0]
        for sight in sights:
            found[sight not in known] += 1
            if sight in known:
                self.leads(tree, rules, sight)
            else:
                self.gives(None, draws_for, tree, rules, sight)
        return found

    def test_by_hand(self):
        self.leads(FINE, RULES, TOP)
        self.leads(FINE, RULES, ())
        self.leads(WRONG, RULES, PAY)
        self.leads(WRONG, RULES, (('top', WRONG),))
        for sight in [(('top', FINE),), PAY, (('lost', (('pay', 0, ()),)),), (('lost', (('pay', 0, ()),)), ('top', ALONE))]:
            self.gives(None, draws_for, FINE, RULES, sight)
        for sight in [(), TOP, (('lost', (('pay', 1, ()),)), ('top', ALONE))]:
            self.gives(None, draws_for, WRONG, RULES, sight)
        self.assertIsNotNone(draws_for(tree=FINE, rules=RULES, sight=TOP))

    def test_one_draw_of_the_trace(self):
        rules = (('front', ('shared', 1, 3)), ('pay', ('shared', 2, 3)))
        for sight, low, high in [((('top', FINE),), 0, Fraction(1, 3)), ((('lost', (('pay', 0, ()),)),), Fraction(1, 3), Fraction(2, 3)),
                                 ((), Fraction(2, 3), 1)]:
            self.leads(FINE, rules, sight)
            self.assertTrue(low <= Fraction(*draws_for(FINE, rules, sight)[0]) < high)
        self.gives(None, draws_for, FINE, rules, TOP)

    def test_two_draws_of_an_or(self):
        rules = (('front', ('or', ('own', 1, BIG), ('own', 0, 1))),)
        self.leads(ALONE, rules, TOP)
        self.leads(ALONE, rules, ())
        for rule in [('or', ('own', 1, 1), ('own', 1, 9)), ('or', ('own', 1, 9), ('own', 4, 4)), ('or', ('shared', 1, 1), ('own', 1, 2)),
                     ('or', ('own', 1, 2), ('late',))]:
            tree = ('front', 1, ())
            self.leads(tree, (('front', rule),), (('top', tree),))
            self.gives(None, draws_for, tree, (('front', rule),), ())

    def test_rules_of_every_word(self):
        tree = ('a', 0, (('a', 1, (('b', 0, ()),)), ('b', 0, ())))
        sights = all_kept_sights(tree)
        totals = [0, 0]
        for rule in EVERY_RULE:
            for other in (('own', 1, 2), ('or', ('caller',), ('own', 1, 12)), ('shared', 1, 2), ('caller',)):
                found = self.settles(tree, (('a', rule), ('b', other)), sights)
                totals = [one + more for one, more in zip(totals, found)]
        self.assertGreater(min(totals), 500)

    def test_random_traces(self):
        for chance, kinds, rules in setups(32, 40):
            tree = chance.choice(kinds)
            sights = all_kept_sights(tree) + all_kept_sights(random_tree(chance, 3)) + [(('top', chance.choice(kinds)),)]
            self.settles(tree, rules, sights)
            self.assertEqual(sorted(oracle.sight_chances(tree, rules)), [sight for sight, _ in sights_of(tree, rules)])

    def test_great_traces(self):
        for chance, kinds, rules in setups(321, 12, size=9, kinds=2):
            tree = random_tree(chance, 9, 'ab')
            some = (('a', ('or', ('own', 1, 12), ('shared', 5, 12))), ('b', ('or', ('caller',), ('own', 11, 12))))
            for sight in chance.sample(sorted(oracle.sight_chances(tree, some)), 12):
                self.leads(tree, some, sight)

    def test_no_sights(self):
        for thing in strange_values() + NO_MARKS + [0, (0,), [], list(TOP), (TOP,), (('top', WRONG), ('top', WRONG)), TOP[0], ('top', ALONE)]:
            for tree in KINDS:
                self.gives(None, draws_for, tree, RULES, thing)
        for rules in [RULES, (('front', ('own', 1, 1)), ('pay', ('own', 1, 1)))]:
            for thing in NO_MARKS:
                self.gives(None, draws_for, WRONG, rules, thing)

    def test_there_are_draws_if_the_chance_is_above_0(self):
        """[33]."""
        for chance, kinds, rules in setups(33, 30):
            for tree in kinds:
                for sight in all_kept_sights(chance.choice(kinds)):
                    self.assertEqual(chance_of(tree, rules, sight) != ZERO, draws_for(tree, rules, sight) is not None)
