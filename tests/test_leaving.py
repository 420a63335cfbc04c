"""[26] and both points [27], with [5] and [11]: what is left of a sight."""

import random
from fractions import Fraction
from itertools import chain, combinations, product

from tests import oracle
from tests.support import (
    ALONE, BIG, FINE, WRONG, Case, random_rules, random_tree, same, strange_values)
from thinspans.errors import NotUsable
from thinspans.kinds import is_fraction, is_sight
from thinspans.leaving import left_of, thinned
from thinspans.sighting import sight_of, sights_of
from thinspans.trees import services_of

SIGHT = NotUsable('sight', -1)
LEAF, BAD_LEAF = ('b', 0, ()), ('b', 1, ())
NO_SIGHTS = [
    (('top', ALONE), ('top', ALONE)), (('lost', ()),), (('lost', (WRONG, ALONE)),), (('top', ALONE), ('lost', (LEAF,))),
    [('top', ALONE)], (['top', ALONE],), (('lost', [LEAF]),), (('top', ('front', True, ())),), (('lost', (('b', False, ()),)),),
    (('top', (ALONE,)),), ('top', ALONE), (('lost', LEAF),), (('lost', (BAD_LEAF,)), ('lost', (LEAF,))), ((),), (('Top', ALONE),),
    (('top', ('a', 0, (('b', 0, (('c', 2, ()),)),))),), 0, 1]


def subsets(things):
    return list(chain.from_iterable(combinations(things, many) for many in range(len(things) + 1)))


def sample_sights(seed, many, size=6, services='abc'):
    """Sights with tops and lost callers, of random traces."""
    chance = random.Random(seed)
    found = [()]
    while len(found) < many:
        tree = random_tree(chance, chance.randint(1, size), services)
        kept = {path for path, _, _ in oracle.all_paths(tree) if chance.random() < 0.8}
        found.append(oracle.kept_sight(tree, kept))
    return found


def as_traces(sight):
    """The sight as traces that are kept in part: a list of (tree, kept paths), one for each piece."""
    found = []
    for word, held in sight:
        tree = held if word == 'top' else ('z', 0, held)
        paths = [path for path, _, _ in oracle.all_paths(tree)]
        found.append((tree, [path for path in paths if word == 'top' or path != ()]))
    return found


def joined_sight(parts):
    return tuple(sorted(piece for part in parts for piece in part))


def left(sight, services):
    """What is left, from the traces whose sights the pieces are."""
    return joined_sight([oracle.kept_sight(tree, {path for path, service, _ in oracle.all_paths(tree)
                                                  if path in kept and service in services})
                         for tree, kept in as_traces(sight)])


def thin(sight, service, chance):
    """The chances of what is left, by trying all draws."""
    traces = as_traces(sight)
    drawn = [(k, path) for k, (tree, kept) in enumerate(traces) for path, name, _ in oracle.all_paths(tree)
             if path in kept and name == service]
    found = {}
    for says in product((False, True), repeat=len(drawn)):
        part = Fraction(1)
        for yes in says:
            part *= chance if yes else 1 - chance
        if part:
            gone = {one for one, yes in zip(drawn, says) if not yes}
            result = joined_sight([oracle.kept_sight(tree, {path for path in kept if (k, path) not in gone})
                                   for k, (tree, kept) in enumerate(traces)])
            found[result] = found.get(result, 0) + part
    return found


class LeftOf(Case):

    def test_example(self):
        self.gives((('lost', (('pay', 1, ()),)),), left_of, (('top', WRONG),), ('pay',))
        self.gives((('top', ('front', 0, ())),), left_of, (('top', WRONG),), ('front',))
        self.gives((), left_of, (), ('pay',))

    def test_by_hand(self):
        tree = ('a', 0, (('b', 0, (('c', 0, ()), ('c', 1, ()))), ('c', 0, ()), ('c', 0, (('b', 0, ()),))))
        self.gives((('lost', (('c', 0, ()), ('c', 1, ()))), ('top', ('a', 0, (('c', 0, ()), ('c', 0, ()))))),
                   left_of, (('top', tree),), ('a', 'c'))
        self.gives((('lost', (LEAF,)), ('lost', (LEAF,))), left_of, (('top', tree),), ('b',))
        # Trees of one lost caller that stay remain together, and those that go are lost callers of their own.
        sight = (('lost', (('a', 0, (('c', 0, ()),)), ('b', 0, ()), ('b', 1, ()))),)
        self.gives((('lost', (('b', 0, ()), ('b', 1, ()))),), left_of, sight, ('b',))
        self.gives((('lost', (('b', 0, ()), ('b', 1, ()))), ('lost', (('c', 0, ()),))), left_of, sight, ('b', 'c'))
        self.gives((('lost', (('a', 0, ()),)),), left_of, sight, ('a',))
        twice = (('lost', (LEAF,)), ('lost', (LEAF,)))
        self.gives(twice, left_of, twice, ('b', 'c'))
        # The calls are sorted anew.
        swapped = ('a', 0, (('b', 0, (LEAF,)), ('b', 0, (('c', 0, ()),))))
        self.gives((('lost', (('c', 0, ()),)),), left_of, (('top', swapped),), ('c',))
        self.gives((('top', ('a', 0, (('b', 0, ()), ('b', 0, (LEAF,))))),), left_of, (('top', swapped),), ('a', 'b'))

    def test_no_service_all_of_them_others(self):
        for sight in sample_sights(261, 30):
            self.gives((), left_of, sight, ())
            self.gives(sight, left_of, sight, ('a', 'b', 'c'))
            self.gives(sight, left_of, sight, ('a', 'b', 'c', 'x', 'yy'))
            self.gives((), left_of, sight, ('x', 'yy'))

    def test_at_any_depth(self):
        for sight in sample_sights(262, 80):
            for services in subsets(('a', 'b', 'c')):
                self.gives(left(sight, services), left_of, sight, services)
                self.assertTrue(is_sight(left_of(sight, services)))

    def test_what_is_left_of_what_is_left(self):
        for sight in sample_sights(263, 40):
            for some in subsets(('a', 'b', 'c')):
                for others in subsets(('a', 'b', 'c')):
                    both = tuple(sorted(set(some) & set(others)))
                    self.gives(left_of(sight, both), left_of, left_of(sight, some), others)

    def test_what_is_left_of_kept_paths(self):
        chance = random.Random(264)
        for _ in range(60):
            tree = random_tree(chance, chance.randint(1, 6), 'abc')
            paths = oracle.all_paths(tree)
            kept = [span for span in paths if chance.random() < 0.7]
            for services in subsets(services_of((tree,))):
                staying = tuple(path for path, service, _ in kept if service in services)
                self.gives(sight_of(tree, staying), left_of, sight_of(tree, tuple(path for path, _, _ in kept)), services)

    def test_no_sights(self):
        for thing in strange_values() + NO_SIGHTS:
            if not is_sight(thing):
                self.fails(SIGHT, left_of, thing, ('a', 'front'))
                self.fails(SIGHT, left_of, thing, ())
        self.assertEqual([], [thing for thing in NO_SIGHTS if is_sight(thing)])


class Thinned(Case):

    def test_example(self):
        self.gives(((((('lost', (('pay', 1, ()),)),), (2, 3)), ((('top', ('front', 0, (('pay', 1, ()),))),), (1, 3)))),
                   thinned, (('top', WRONG),), 'front', 1, 3)

    def test_by_hand(self):
        self.gives((((), (1, 1)),), thinned, (), 'front', 1, 2)
        self.gives((((), (1, 2)), ((('top', ALONE),), (1, 2))), thinned, (('top', ALONE),), 'front', 2, 4)
        twins = (('lost', (LEAF, LEAF)),)
        self.gives((((), (4, 9)), ((('lost', (LEAF,)),), (4, 9)), (twins, (1, 9))), thinned, twins, 'b', 4, 12)
        apart = (('lost', (LEAF,)), ('lost', (LEAF,)))
        self.gives((((), (4, 9)), ((('lost', (LEAF,)),), (4, 9)), (apart, (1, 9))), thinned, apart, 'b', 1, 3)
        self.gives(((twins, (1, 1)),), thinned, twins, 'a', 1, 3)

    def test_chances_of_0_and_1(self):
        for sight in sample_sights(271, 40):
            for service in ('a', 'b', 'c', 'x'):
                others = tuple(name for name in ('a', 'b', 'c', 'x') if name != service)
                for q in (1, 6):
                    self.gives(((sight, (1, 1)),), thinned, sight, service, q, q)
                    self.gives(((left_of(sight, others), (1, 1)),), thinned, sight, service, 0, q)

    def test_all_draws_tried(self):
        for sight in sample_sights(272, 80):
            for service, p, q in (('a', 1, 2), ('b', 2, 6), ('c', 11, 12), ('a', 8, 12), ('x', 1, 2)):
                self.gives(oracle.pairs(thin(sight, service, Fraction(p, q))), thinned, sight, service, p, q)

    def test_form_of_results(self):
        for sight in sample_sights(273, 40):
            pairs = thinned(sight, 'a', 3, 4)
            self.assertEqual(1, sum(Fraction(*chance) for _, chance in pairs))
            self.assertEqual(sorted({left for left, _ in pairs}), [left for left, _ in pairs])
            self.assertTrue(all(is_sight(left) and is_fraction(chance) and chance[0] > 0 for left, chance in pairs))

    def test_sixty_digits(self):
        self.gives((((), (1, BIG)), ((('top', ALONE),), (BIG - 1, BIG))), thinned, (('top', ALONE),), 'front', BIG - 1, BIG)

    def test_own_rules_are_thinned(self):
        """Without "caller", ("own", p, q) gives the chances of ("own", 1, 1), thinned."""
        chance = random.Random(274)
        tried = 0
        while tried < 60:
            tree = random_tree(chance, chance.randint(1, 5), 'abc')
            rules = random_rules(chance, (tree,))
            if 'caller' in [plain[0] for _, rule in rules for plain in oracle.plain_rules(rule)]:
                continue
            tried += 1
            service, p, q = chance.choice(rules)[0], chance.randint(0, 4), 4
            thin_rules = tuple((name, ('own', p, q) if name == service else rule) for name, rule in rules)
            full_rules = tuple((name, ('own', 1, 1) if name == service else rule) for name, rule in rules)
            wanted = {}
            for sight, part in sights_of(tree, full_rules):
                for thing, share in thinned(sight, service, p, q):
                    wanted[thing] = wanted.get(thing, 0) + Fraction(*part) * Fraction(*share)
            self.assertTrue(same(oracle.pairs(wanted), sights_of(tree, thin_rules)))

    def test_no_sights(self):
        for thing in strange_values() + NO_SIGHTS:
            if not is_sight(thing):
                self.fails(SIGHT, thinned, thing, 'front', 1, 2)
                self.fails(SIGHT, thinned, thing, 'x', 0, 1)

    def test_services_apart(self):
        self.gives((((('top', FINE),), (1, 1)),), thinned, (('top', FINE),), 'fron', 1, 2)
