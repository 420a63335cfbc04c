"""Both points [28] and [29], with [3] and [5]: what is seen of a crowd on the average."""

import random
from fractions import Fraction

from tests import oracle
from tests.support import (
    ALONE, BIG, FINE, KINDS, RULES, WRONG, Case, random_kinds, setups, strange_values)
from thinspans.averages import expected, kept_spans, look_alikes, unseen
from thinspans.errors import NotUsable
from thinspans.sighting import sights_of

CROWD = NotUsable('crowd', -1)
LONE = (('pay', 1, ()),)


def spans_of_sight(sight):
    return [service for word, held in sight for top in ([held] if word == 'top' else held)
            for _, service, _ in oracle.all_paths(top)]


def means(kinds, rules, crowd):
    """A dict from all sights, () among them, to how often they come on the average."""
    found = {}
    for kind, number in zip(kinds, crowd):
        for sight, chance in oracle.sight_chances(kind, rules).items():
            found[sight] = found.get(sight, 0) + chance * number
    return {sight: often for sight, often in found.items() if often}


class Averages(Case):

    def test_example(self):
        self.assertEqual([(3, 1)] * 3, [pair[1] for pair in expected(KINDS, RULES, (2, 4, 6))])
        self.gives((((('lost', LONE),), (3, 1)), ((('top', ALONE),), (3, 1)), ((('top', WRONG),), (3, 1))),
                   expected, KINDS, RULES, (2, 4, 6))
        self.gives((3, 1), unseen, KINDS, RULES, (2, 4, 6))
        self.gives((('front', (6, 1)), ('pay', (6, 1))), kept_spans, KINDS, RULES, (2, 4, 6))

    def test_zeros(self):
        self.gives((), expected, KINDS, RULES, (0, 0, 0))
        self.gives((0, 1), unseen, KINDS, RULES, (0, 0, 0))
        self.gives((('front', (0, 1)), ('pay', (0, 1))), kept_spans, KINDS, RULES, (0, 0, 0))
        self.gives((((('top', ALONE),), (1, 2)),), expected, KINDS, RULES, (1, 0, 0))
        self.gives((('front', (1, 2)), ('pay', (0, 1))), kept_spans, KINDS, RULES, (1, 0, 0))
        self.gives((0, 1), unseen, KINDS, RULES, (0, 0, 5))

    def test_nothing_kept(self):
        never = (('front', ('never',)), ('pay', ('own', 0, 3)))
        self.gives((), expected, KINDS, never, (1, 2, 3))
        self.gives((6, 1), unseen, KINDS, never, (1, 2, 3))
        self.gives((('front', (0, 1)), ('pay', (0, 1))), kept_spans, KINDS, never, (1, 2, 3))
        self.gives(((0, 1, 2),), look_alikes, KINDS, never)

    def test_large_numbers(self):
        self.gives((((('lost', LONE),), (BIG, 2)), ((('top', ALONE),), (2 * BIG + 1, 2)), ((('top', WRONG),), (BIG, 2))),
                   expected, KINDS, RULES, (BIG, BIG + 1, BIG))
        self.gives((2 * BIG + 1, 2), unseen, KINDS, RULES, (BIG, BIG + 1, BIG))

    def test_all_draws_tried(self):
        for chance, kinds, rules in setups(28, 60):
            crowd = tuple(chance.choice([0, 1, 2, 7, 99, 10 ** 40]) for _ in kinds)
            often = means(kinds, rules, crowd)
            none = often.pop((), Fraction(0))
            self.gives(oracle.pairs(often), expected, kinds, rules, crowd)
            self.gives(oracle.pair(Fraction(none)), unseen, kinds, rules, crowd)
            services = sorted({service for kind in kinds for _, service, _ in oracle.all_paths(kind)})
            wanted = tuple((service, oracle.pair(Fraction(sum(often[sight] * spans_of_sight(sight).count(service)
                                                              for sight in often)))) for service in services)
            self.gives(wanted, kept_spans, kinds, rules, crowd)
            # Seen and unseen is together the number of the traces.
            self.assertEqual(sum(crowd), sum(Fraction(*pair[1]) for pair in expected(kinds, rules, crowd)) + none)
            # Each kept span is in a sight.
            self.assertEqual(sum(Fraction(*pair[1]) for pair in kept_spans(kinds, rules, crowd)),
                             sum(Fraction(*pair[1]) * len(spans_of_sight(pair[0]))
                                 for pair in expected(kinds, rules, crowd)))

    def test_two_crowds_together(self):
        for chance, kinds, rules in setups(281, 30):
            one, other = (tuple(chance.randint(0, 99) for _ in kinds) for _ in range(2))
            wanted = {}
            for crowd in (one, other):
                for sight, often in expected(kinds, rules, crowd):
                    wanted[sight] = wanted.get(sight, 0) + Fraction(*often)
            self.gives(oracle.pairs(wanted), expected, kinds, rules, tuple(a + b for a, b in zip(one, other)))

    def test_no_crowds(self):
        for thing in strange_values() + [
                0, 1, (), (1,), (1, 2), (1, 2, 3, 4), [1, 2, 3], (1, 2, -1), (-1, 0, 0), (0, 0, True), (False, 0, 0),
                (1, 2, (3, 1)), ((1, 1), (1, 1), (1, 1)), (1, 2, [3]), (0, -BIG, 0), ('1', '2', '3'), (0, 0, None)]:
            for function in (expected, unseen, kept_spans):
                self.fails(CROWD, function, KINDS, RULES, thing)

    def test_limits(self):
        chance = random.Random(282)
        kinds = ()
        while len(kinds) < 6:
            kinds = random_kinds(chance, 7, 6)[:6]
        services = sorted({service for kind in kinds for _, service, _ in oracle.all_paths(kind)})
        rules = tuple((service, ('or', ('own', 5, 12), ('shared', 7, 11))) for service in services)
        crowd = (99, 0, 1, 50, 98, 7)
        self.assertEqual(sum(crowd), sum(Fraction(*pair[1]) for pair in expected(kinds, rules, crowd))
                         + Fraction(*unseen(kinds, rules, crowd)))


class LookAlikes(Case):

    def test_example(self):
        self.gives(((0, 1), (2,)), look_alikes, KINDS, RULES)

    def test_by_hand(self):
        self.gives(((0,), (1,), (2,)), look_alikes, KINDS, (('front', ('own', 1, 2)), ('pay', ('own', 1, 2))))
        self.gives(((0, 1), (2,)), look_alikes, KINDS, (('front', ('late',)), ('pay', ('never',))))
        four = (('a', 0, ()), ('a', 0, (('b', 1, ()),)), ('a', 1, ()), ('a', 1, (('b', 1, ()),)))
        self.gives(((0, 1), (2, 3)), look_alikes, four, (('a', ('own', 1, 2)), ('b', ('never',))))
        self.gives(((0, 2), (1, 3)), look_alikes, four, (('a', ('never',)), ('b', ('bad',))))
        self.gives(((0,),), look_alikes, (FINE,), RULES)

    def test_all_draws_tried(self):
        for _, kinds, rules in setups(29, 60, kinds=6):
            looks = [oracle.sight_chances(kind, rules) for kind in kinds]
            wanted = {tuple(k for k, look in enumerate(looks) if look == one) for one in looks}
            self.gives(tuple(sorted(wanted)), look_alikes, kinds, rules)
            for some in look_alikes(kinds, rules):
                self.assertEqual(1, len({sights_of(kinds[k], rules) for k in some}))
