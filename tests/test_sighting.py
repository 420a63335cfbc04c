"""[22], [23], [24], with [4] and [5], and their consequences [25]."""

import random
from fractions import Fraction
from itertools import chain, combinations

from tests import oracle
from tests.support import (
    ALONE, BIG, FINE, KINDS, NONE, RULES, WRONG, Case, random_kinds, random_plain, random_rule, random_rules, random_tree,
    strange_values)
from thinspans.errors import NotUsable
from thinspans.fractions import made
from thinspans.kinds import is_fraction, is_sight
from thinspans.sighting import all_sights, can_be_unseen, can_be_whole, chance_of, kept_by, sight_of, sights_of
from thinspans.trees import services_of

LEAF, BAD_LEAF = ('b', 0, ()), ('b', 1, ())
TWINS = ('a', 0, (LEAF, LEAF))
CHAIN = ('a', 0, (('b', 0, (('a', 0, (('b', 1, ()),)),)),))
HALF, THIRD = ('own', 1, 2), ('own', 1, 3)
KEPT = NotUsable('kept', -1)


def paths_of(tree):
    return [path for path, _, _ in oracle.all_paths(tree)]


def subsets(things):
    return list(chain.from_iterable(combinations(things, many) for many in range(len(things) + 1)))


def all_with(rule, *services):
    return tuple((service, rule) for service in services)


class SightOf(Case):

    def test_example(self):
        self.gives((('lost', (('pay', 1, ()),)),), sight_of, WRONG, ((0,),))
        self.gives((('top', ('front', 0, ())),), sight_of, FINE, ((),))

    def test_by_hand(self):
        self.gives((), sight_of, CHAIN, ())
        self.gives((('top', CHAIN),), sight_of, CHAIN, tuple(paths_of(CHAIN)))
        self.gives((('lost', (BAD_LEAF,)), ('top', ('a', 0, (LEAF,)))), sight_of, CHAIN, ((), (0,), (0, 0, 0)))
        self.gives((('lost', (LEAF,)), ('lost', (BAD_LEAF,))), sight_of, CHAIN, ((0,), (0, 0, 0)))
        self.gives((('lost', (LEAF, LEAF)),), sight_of, TWINS, ((0,), (1,)))
        self.gives((('lost', (('a', 0, (BAD_LEAF,)),)),), sight_of, CHAIN, ((0, 0), (0, 0, 0)))
        # Two lost callers are two pieces, also where these are equal.
        pair = ('a', 0, (('c', 0, (LEAF,)), ('c', 0, (LEAF,))))
        self.gives((('lost', (LEAF,)), ('lost', (LEAF,)), ('top', ('a', 0, ()))), sight_of, pair, ((), (0, 0), (1, 0)))
        # What stays of the calls is sorted anew.
        swapped = ('a', 0, (('b', 0, (LEAF,)), ('b', 0, (('c', 0, ()),))))
        self.gives((('top', ('a', 0, (('b', 0, ()), ('b', 0, (LEAF,))))),), sight_of, swapped, ((), (0,), (0, 0), (1,)))

    def test_every_set_of_kept_spans(self):
        chance = random.Random(22)
        for tree in [ALONE, FINE, TWINS, CHAIN] + [random_tree(chance, size, 'ab') for size in (1, 2, 3, 4, 5, 6, 6)]:
            for kept in subsets(paths_of(tree)):
                wanted = oracle.kept_sight(tree, kept)
                self.gives(wanted, sight_of, tree, kept)
                self.assertTrue(is_sight(wanted))
                spans = sum(len(oracle.all_paths(part)) for word, held in wanted
                            for part in ([held] if word == 'top' else held))
                self.assertEqual(len(kept), spans)

    def test_no_sets_of_paths(self):
        for thing in strange_values():
            if thing != ((),):
                self.fails(KEPT, sight_of, TWINS, thing)
                self.fails(KEPT, sight_of, TWINS, ((), thing))
        for thing in [((0,), ()), ((), ()), ((1,), (0,)), ((0,), (0,)), [()], [], [(0,)], ([],), ([0],), ((2,),), ((-1,),),
                      ((True,),), ((False,),), ((), (0,), (True,)), ((0, 0),), (0,), (0, 1), ((None,),), ((BIG,),),
                      ((), (0,), (1,), (2,)), {}, 0, 1]:
            self.fails(KEPT, sight_of, TWINS, thing)


class KeptBy(Case):

    def test_example(self):
        self.gives(((),), kept_by, FINE, RULES, NONE, (((1, 4), NONE), (NONE, NONE)))

    def test_at_the_ends_of_a_chance(self):
        below, above = (10 ** 30 - 1, 2 * 10 ** 30), (10 ** 30 + 1, 2 * 10 ** 30)
        for rule in (HALF, ('own', 3, 6)):
            for draw, kept in ((NONE, ((),)), (below, ((),)), ((1, 2), ()), (above, ())):
                self.gives(kept, kept_by, ALONE, (('front', rule),), (99, 100), ((draw, NONE),))
        for rule in (('shared', 1, 2), ('shared', 6, 12)):
            for draw, kept in ((NONE, ((),)), (below, ((),)), ((1, 2), ()), (above, ())):
                self.gives(kept, kept_by, ALONE, (('front', rule),), draw, ((NONE, NONE),))
        for word in ('own', 'shared'):
            for draw in (NONE, (1, 2), (10 ** 59, 10 ** 59 + 1)):
                self.gives((), kept_by, ALONE, (('front', (word, 0, 3)),), draw, ((draw, draw),))
                self.gives(((),), kept_by, ALONE, (('front', (word, 3, 3)),), draw, ((draw, draw),))

    def test_each_word(self):
        draws = (((9, 10), (9, 10)),) * 4
        for rule, kept in [(('never',), ()), (('caller',), ()), (('bad',), ((0, 0, 0),)), (('late',), tuple(paths_of(CHAIN)))]:
            self.gives(kept, kept_by, CHAIN, all_with(rule, 'a', 'b'), (9, 10), draws)
        self.gives((), kept_by, FINE, all_with(('late',), 'front', 'pay'), NONE, draws[:2])

    def test_callers(self):
        draws = ((NONE, NONE), ((1, 2), NONE), (NONE, NONE), ((1, 2), NONE))
        self.gives(((), (0,), (0, 0), (0, 0, 0)), kept_by, CHAIN, (('a', HALF), ('b', ('caller',))), NONE, draws)
        draws = (((1, 2), NONE), (NONE, NONE), (NONE, NONE), ((1, 2), NONE))
        self.gives(((0, 0), (0, 0, 0)), kept_by, CHAIN, (('a', HALF), ('b', ('caller',))), NONE, draws)
        # A top has no caller.
        self.gives((), kept_by, CHAIN, all_with(('caller',), 'a', 'b'), NONE, draws)
        self.gives(((0,), (0, 0), (0, 0, 0)), kept_by, CHAIN, (('a', ('caller',)), ('b', ('own', 1, 1))), NONE, draws)

    def test_first_and_second_draw(self):
        both = (('front', ('or', HALF, THIRD)),)
        for first, second, kept in [((1, 4), (1, 2), True), ((1, 2), (1, 4), True), ((1, 2), (1, 3), False),
                                    ((2, 5), (2, 5), True), (NONE, NONE, True)]:
            self.gives(((),) if kept else (), kept_by, ALONE, both, NONE, ((first, second),))
        second_own = (('front', ('or', ('bad',), HALF)),)
        self.gives((), kept_by, ALONE, second_own, NONE, ((NONE, (1, 2)),))
        self.gives(((),), kept_by, ALONE, second_own, NONE, (((1, 2), NONE),))
        mixed = (('front', ('or', HALF, ('shared', 1, 3))),)
        self.gives(((),), kept_by, ALONE, mixed, (1, 4), (((1, 2), (1, 2)),))
        self.gives((), kept_by, ALONE, mixed, (1, 3), (((1, 2), NONE),))

    def test_as_the_rules_say(self):
        chance = random.Random(23)
        for _ in range(300):
            tree = random_tree(chance, chance.randint(1, 6), 'abc')
            rules = random_rules(chance, (tree,), 12)

            def draw():
                return oracle.pair(Fraction(chance.randrange(12), 12))
            low = draw()
            pairs = tuple((draw(), draw()) for _ in paths_of(tree))
            luck = {}
            for (path, service, _), both in zip(oracle.all_paths(tree), pairs):
                for which, plain in enumerate(oracle.plain_rules(dict(rules)[service])):
                    luck[path, which] = plain[0] == 'own' and Fraction(*both[which]) < Fraction(plain[1], plain[2])
            self.gives(tuple(sorted(oracle.kept_for(tree, rules, Fraction(*low), luck))), kept_by, tree, rules, low, pairs)

    def test_less_is_kept_for_a_greater_draw(self):
        chance = random.Random(25)
        for _ in range(40):
            tree = random_tree(chance, 5)
            rules = tuple((service, ('shared', chance.randint(0, 4), 4)) for service in services_of((tree,)))
            pairs = ((NONE, NONE),) * 5
            kept = [set(kept_by(tree, rules, made(k, 8), pairs)) for k in range(8)]
            for less, greater in zip(kept, kept[1:]):
                self.assertLessEqual(greater, less)


class SightsOf(Case):

    def agrees(self, tree, rules):
        chances = oracle.sight_chances(tree, rules)
        self.gives(oracle.pairs(chances), sights_of, tree, rules)
        for sight, chance in chances.items():
            self.gives(oracle.pair(chance), chance_of, tree, rules, sight)
        self.gives((('top', tree),) in chances, can_be_whole, tree, rules)
        self.gives(() in chances, can_be_unseen, tree, rules)

    def test_example(self):
        self.gives((((), (1, 2)), ((('top', ('front', 0, ())),), (1, 2))), sights_of, FINE, RULES)
        self.gives((0, 1), chance_of, WRONG, RULES, ())
        self.assertEqual(3, len(all_sights(KINDS, RULES)))
        self.gives(((('lost', (('pay', 1, ()),)),), (('top', ALONE),), (('top', WRONG),)), all_sights, KINDS, RULES)

    def test_by_hand(self):
        top = (('top', ALONE),)
        for rule, wanted in [
                (('never',), (((), (1, 1)),)), (('own', 1, 1), ((top, (1, 1)),)), (('own', 0, 4), (((), (1, 1)),)),
                (('own', 6, 9), (((), (1, 3)), (top, (2, 3)))), (('shared', 6, 9), (((), (1, 3)), (top, (2, 3)))),
                (('caller',), (((), (1, 1)),)), (('bad',), (((), (1, 1)),)), (('late',), (((), (1, 1)),)),
                (('or', HALF, THIRD), (((), (1, 3)), (top, (2, 3)))),
                (('or', HALF, HALF), (((), (1, 4)), (top, (3, 4)))),
                (('or', HALF, ('shared', 1, 2)), (((), (1, 4)), (top, (3, 4)))),
                (('or', ('shared', 1, 2), ('shared', 1, 3)), (((), (1, 2)), (top, (1, 2)))),
                (('or', ('caller',), ('late',)), (((), (1, 1)),)), (('or', ('never',), HALF), (((), (1, 2)), (top, (1, 2))))]:
            self.gives(wanted, sights_of, ALONE, (('front', rule),))

    def test_one_draw_of_a_trace_for_all_services(self):
        rules = (('front', ('shared', 1, 2)), ('pay', ('shared', 1, 3)))
        self.gives((((), (1, 2)), ((('top', ALONE),), (1, 6)), ((('top', FINE),), (1, 3))), sights_of, FINE, rules)
        rules = (('front', ('shared', 1, 3)), ('pay', ('shared', 1, 2)))
        self.gives((((), (1, 2)), ((('lost', (('pay', 0, ()),)),), (1, 6)), ((('top', FINE),), (1, 3))), sights_of, FINE, rules)

    def test_a_draw_for_each_span(self):
        self.gives((((), (1, 8)), ((('lost', (LEAF,)),), (1, 4)), ((('lost', (LEAF, LEAF)),), (1, 8)),
                    ((('top', ('a', 0, ())),), (1, 8)), ((('top', ('a', 0, (LEAF,))),), (1, 4)), ((('top', TWINS),), (1, 8))),
                   sights_of, TWINS, all_with(HALF, 'a', 'b'))

    def test_callers_and_late_ones(self):
        rules = (('a', HALF), ('b', ('caller',)))
        self.gives((((), (1, 2)), ((('top', TWINS),), (1, 2))), sights_of, TWINS, rules)
        self.gives((((('top', CHAIN),), (1, 1)),), sights_of, CHAIN, all_with(('or', ('caller',), ('late',)), 'a', 'b'))
        self.gives((((), (1, 1)),), sights_of, CHAIN, all_with(('caller',), 'a', 'b'))
        # The mark that makes a trace late need not be kept.
        rules = (('a', ('late',)), ('b', ('never',)))
        self.gives((((('lost', (('a', 0, ()),)), ('top', ('a', 0, ()))), (1, 1)),), sights_of, CHAIN, rules)

    def test_every_pair_of_words(self):
        plains = [('never',), ('own', 2, 4), ('shared', 1, 3), ('caller',), ('bad',), ('late',), ('own', 0, 2), ('shared', 2, 2)]
        for one in plains:
            for other in plains:
                rules = (('front', one), ('pay', other))
                for tree in (FINE, WRONG):
                    self.agrees(tree, rules)
                    self.agrees(tree, (('front', HALF), ('pay', ('or', one, other))))
                    self.agrees(tree, (('front', ('or', one, other)), ('pay', ('caller',))))

    def test_all_draws_tried(self):
        chance = random.Random(24)
        for size in (1, 2, 3, 4, 5, 6):
            for _ in range(25):
                tree = random_tree(chance, size, chance.choice(['a', 'ab', 'abcd']))
                self.agrees(tree, random_rules(chance, (tree,), 12))

    def test_form_of_results(self):
        chance = random.Random(241)
        for _ in range(60):
            tree = random_tree(chance, chance.randint(1, 6))
            rules = random_rules(chance, (tree,), 12)
            pairs = sights_of(tree, rules)
            self.assertEqual(1, sum(Fraction(*pair[1]) for pair in pairs))
            self.assertEqual(sorted(set(sight for sight, _ in pairs)), [sight for sight, _ in pairs])
            for sight, part in pairs:
                self.assertTrue(is_sight(sight) and is_fraction(part) and part[0] > 0)
                # No sight has more spans than the trace.
                spans = [span for word, held in sight for top in ([held] if word == 'top' else held)
                         for span in oracle.all_paths(top)]
                self.assertLessEqual(len(spans), len(paths_of(tree)))

    def test_rules_of_more_services(self):
        self.gives((((), (1, 2)), ((('top', ALONE),), (1, 2))), sights_of, ALONE, RULES)
        self.gives((((), (1, 2)), ((('top', ALONE),), (1, 2))), sights_of, ALONE, RULES + (('z', ('shared', 1, 7)),))

    def test_any_value_as_sight(self):
        for thing in strange_values():
            self.gives((0, 1), chance_of, WRONG, RULES, thing)
        marked = (('lost', (('pay', 1, ()),)),)
        self.gives((1, 2), chance_of, WRONG, RULES, marked)
        for thing in [(('lost', (('pay', True, ()),)),), [('lost', (('pay', 1, ()),))], (['lost', (('pay', 1, ()),)],),
                      (('lost', [('pay', 1, ())]),), (('lost', (['pay', 1, ()],)),), (('lost', (('pay', 1, []),)),),
                      marked + marked, (('top', ('pay', 1, ())),), (('lost', (('pay', 0, ()),)),), ()]:
            self.gives((0, 1), chance_of, WRONG, RULES, thing)
        self.gives((0, 1), chance_of, ALONE, RULES, (('top', ('front', False, ())),))
        self.gives((1, 2), chance_of, ALONE, RULES, ())
        self.gives((0, 1), chance_of, ALONE, RULES, [])
        self.gives((0, 1), chance_of, ALONE, (('front', ('own', 0, 1)),), (('top', ALONE),))
        self.gives((1, 1), chance_of, ALONE, (('front', ('own', 0, 1)),), ())

    def test_all_sights(self):
        chance = random.Random(242)
        for _ in range(40):
            kinds = random_kinds(chance, 3, 4)
            rules = random_rules(chance, kinds)
            self.gives(tuple(oracle.seen_sights(kinds, rules)), all_sights, kinds, rules)
        self.gives((), all_sights, KINDS, all_with(('never',), 'front', 'pay'))
        self.gives((), all_sights, KINDS, (('front', ('own', 0, 7)), ('pay', ('caller',))))

    def test_whole_and_unseen(self):
        for rules, whole, unseen in [
                (all_with(('own', 1, 1), 'front', 'pay'), True, False), (all_with(HALF, 'front', 'pay'), True, True),
                (all_with(('never',), 'front', 'pay'), False, True), (all_with(('bad',), 'front', 'pay'), False, False),
                (all_with(('late',), 'front', 'pay'), True, False), (all_with(('caller',), 'front', 'pay'), False, True),
                ((('front', ('own', 1, 1)), ('pay', ('caller',))), True, False),
                ((('front', ('or', HALF, ('late',))), ('pay', ('shared', 1, 9))), True, False),
                ((('front', ('own', 0, 1)), ('pay', ('shared', 8, 9))), False, True)]:
            self.gives(whole, can_be_whole, WRONG, rules)
            self.gives(unseen, can_be_unseen, WRONG, rules)


class MoreIsKept(Case):
    """[25]: with an "or" in place of one of its rules, or a greater p, no span is kept with a lesser chance."""

    def span_chances(self, tree, rules):
        """For each path its chance to be kept, told by traces whose services tell the spans apart."""
        names = 'ijklmnop'
        places = {path: names[k] for k, path in enumerate(paths_of(tree))}

        def apart(here, path):
            return (places[path], here[1], tuple(sorted(apart(call, path + (j,)) for j, call in enumerate(here[2]))))
        known = {places[path]: dict(rules)[service] for path, service, _ in oracle.all_paths(tree)}
        found = {name: Fraction(0) for name in known}
        for sight, part in sights_of(apart(tree, ()), tuple(sorted(known.items()))):
            for word, held in sight:
                for top in ([held] if word == 'top' else held):
                    for _, service, _ in oracle.all_paths(top):
                        found[service] += Fraction(*part)
        return found

    def test_or_and_greater_chance(self):
        chance = random.Random(26)
        for _ in range(40):
            tree = random_tree(chance, 4, 'ab')
            rules = random_rules(chance, (tree,))
            place = chance.randrange(len(rules))
            service, rule = rules[place]
            if rule[0] == 'or' or chance.random() < 0.3:
                plain = ('own', chance.randint(0, 3), 4)
                less, more = plain, (plain[0], plain[1] + 1, plain[2])
            else:
                less, more = rule, chance.choice([('or', rule, random_plain(chance)), ('or', random_plain(chance), rule)])
            low = self.span_chances(tree, rules[:place] + ((service, less),) + rules[place + 1:])
            high = self.span_chances(tree, rules[:place] + ((service, more),) + rules[place + 1:])
            for name in low:
                self.assertLessEqual(low[name], high[name])


class Limits(Case):
    """Six spans, four services, q to twelve and beyond."""

    def test_great_traces(self):
        chance = random.Random(10)
        for q in (12, 13, 10 ** 20):
            tree = random_tree(chance, 6)
            rules = tuple((service, ('or', ('own', q // 2, q), ('shared', q // 3, q))) for service in services_of((tree,)))
            self.assertEqual(1, sum(Fraction(*pair[1]) for pair in sights_of(tree, rules)))
            self.gives(True, can_be_whole, tree, rules)
        wide = ('a', 0, (LEAF,) * 9)
        pairs = dict(sights_of(wide, all_with(HALF, 'a', 'b')))
        self.assertEqual(20, len(pairs))
        self.assertEqual((63, 512), pairs[(('lost', (LEAF,) * 4),)])

    def test_rules_of_every_word(self):
        chance = random.Random(101)
        words = {random_rule(chance)[0] for _ in range(200)}
        self.assertEqual({'never', 'own', 'shared', 'caller', 'bad', 'late', 'or'}, words)
