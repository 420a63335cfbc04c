"""[30] and [31], with [5], [22] and [26]; what follows, [33]."""

from itertools import combinations

from tests import oracle
from tests.support import ALONE, FINE, KINDS, WRONG, Case, names_in, random_tree, same, setups, spoiled, strange_values
from thinspans.errors import NotUsable
from thinspans.kinds import is_sight
from thinspans.leaving import left_of
from thinspans.sights import Sight

SIGHT = NotUsable('sight', -1)
PAY, TOP = ('lost', (('pay', 1, ()),)), ('top', ALONE)
TWO = Sight((PAY, TOP))
NO_SIGHTS = [0, [], [TOP], TOP, (TOP, PAY), (TOP, TOP), (TOP, ('top', FINE)), (('lost', ()),), (('lost', (WRONG, FINE)),), (('lost', FINE),), (('top', (FINE,)),), (('top', ('front', True, ())),),
             (('lost', (('pay', False, ()),)),), (('top', ('Front', 0, ())),), (('top', ('front', 2, ())),), (('Top', ALONE),), (('top', ALONE, 0),), (['top', ALONE],), (PAY, PAY, TOP, 0),
             (('lost', [ALONE]),), ('top',), (('top',),), (None,), (PAY, None), (('top', ('front', 0, (WRONG, FINE))),), TWO]


def spans_in(sight):
    return [span for word, held in sight for tree in ([held] if word == 'top' else held) for span in oracle.all_paths(tree)]


def kept_sights(tree):
    """(kept, sight) for each set of kept paths."""
    paths = [path for path, _, _ in oracle.all_paths(tree)]
    return [(set(kept), oracle.kept_sight(tree, set(kept))) for many in range(len(paths) + 1) for kept in combinations(paths, many)]


class SightCase(Case):

    def shows(self, sight, pieces):
        """That it is a Sight of these pieces, with all that follows of them."""
        self.assertIs(Sight, type(sight))
        spans = spans_in(pieces)
        self.assertTrue(same(pieces, sight.pieces))
        self.assertTrue(same(sum(mark for _, _, mark in spans), sight.bad))
        self.assertTrue(same(tuple(sorted({service for _, service, _ in spans})), sight.services))
        self.gives(len(spans), len, sight)
        self.assertTrue(same(list(pieces), list(sight)))
        self.assertTrue(same(list(pieces), [piece for piece in sight]))
        self.assertTrue(all((service in sight) is True for service in sight.services))
        self.assertIs(True, sight == Sight(pieces))


class Sights(SightCase):

    def test_example(self):
        s = Sight((('lost', (('pay', 1, ()),)), ('top', ALONE)))
        self.assertTrue(same([2, 1, ('front', 'pay'), True, False, True],
                             [len(s), s.bad, s.services, 'pay' in s, s.could_be(WRONG), s.left(('front',)) == Sight((('top', ALONE),))]))

    def test_by_hand(self):
        self.shows(Sight(()), ())
        self.shows(Sight(pieces=(TOP,)), (TOP,))
        self.shows(TWO, (PAY, TOP))
        self.shows(Sight((PAY, PAY)), (PAY, PAY))
        self.shows(Sight((('lost', (FINE, WRONG, WRONG)), ('lost', (('pay', 1, ()),)), ('top', WRONG))), (('lost', (FINE, WRONG, WRONG)), ('lost', (('pay', 1, ()),)), ('top', WRONG)))
        self.assertEqual((0, 0, (), []), (len(Sight(())), Sight(()).bad, Sight(()).services, list(Sight(()))))

    def test_as_defined(self):
        for _, kinds, _ in setups(30, 40):
            for kind in kinds:
                for _, pieces in kept_sights(kind):
                    self.shows(Sight(pieces), pieces)

    def test_no_sights(self):
        for thing in strange_values() + NO_SIGHTS:
            self.assertFalse(is_sight(thing))
            self.fails(SIGHT, Sight, thing)

    def test_spoiled(self):
        for chance, kinds, _ in setups(301, 60):
            _, pieces = chance.choice(kept_sights(chance.choice(kinds)))
            for _ in range(20):
                thing = spoiled(chance, pieces, [ALONE, 'top', 'lost', PAY, TOP])
                if is_sight(thing):
                    self.shows(Sight(thing), thing)
                else:
                    self.fails(SIGHT, Sight, thing)

    def test_in(self):
        for thing in strange_values() + [0, (), 'Pay', 'pa', 'back', ('pay',), TOP, PAY, ALONE, TWO, (PAY, TOP)]:
            self.assertIs(False, thing in TWO, thing)
        self.assertIs(False, 'pay' in Sight((TOP,)))
        self.assertIs(False, 'front' in Sight(()))

    def test_iterated_twice(self):
        for _ in range(2):
            self.assertEqual([PAY, TOP], list(TWO))
        self.assertEqual([(PAY, PAY), (PAY, TOP), (TOP, PAY), (TOP, TOP)], [(one, other) for one in TWO for other in TWO])

    def test_equal(self):
        self.assertIs(True, TWO == Sight((PAY, TOP)))
        self.assertIs(False, TWO != Sight((PAY, TOP)))
        for other in [Sight(()), Sight((TOP,)), Sight((PAY,)), Sight((PAY, ('top', FINE))), Sight((('lost', (('pay', 0, ()),)), TOP)), Sight((PAY, PAY, TOP))]:
            self.assertIs(False, TWO == other)
            self.assertIs(False, other == TWO)
            self.assertIs(True, TWO != other)
        for thing in strange_values() + [0, (), (PAY, TOP), [PAY, TOP], 'pay', object()]:
            self.assertIs(False, TWO == thing)
            self.assertIs(False, thing == TWO)
        self.assertIs(False, Sight(()) == ())

    def test_never_changes(self):
        sight = Sight((PAY, TOP))
        before = repr(vars(sight))
        for action in [lambda: sight.left(('pay',)), lambda: sight.could_be(WRONG), lambda: len(sight), lambda: list(sight), lambda: 'pay' in sight, lambda: sight == TWO]:
            action()
            self.assertEqual(before, repr(vars(sight)))


class Left(SightCase):

    def test_by_hand(self):
        for services, pieces in [(('front',), (TOP,)), (('pay',), (PAY,)), (('front', 'pay'), (PAY, TOP)), ((), ()), (('back',), ()), (('back', 'pay'), (PAY,))]:
            self.shows(TWO.left(services), pieces)
            self.shows(TWO.left(services=services), pieces)
        self.shows(Sight((('top', WRONG),)).left(('pay',)), (PAY,))
        self.shows(Sight(()).left(('front',)), ())

    def test_as_left_of(self):
        for chance, kinds, _ in setups(302, 40):
            kind = chance.choice(kinds)
            services = tuple(sorted(chance.sample(sorted(names_in(kind) | {'z'}), 2)))
            marks = {path: service for path, service, _ in oracle.all_paths(kind)}
            for kept, pieces in kept_sights(kind):
                sight = Sight(pieces)
                left = sight.left(services)
                self.shows(left, left_of(pieces, services))
                self.shows(left, oracle.kept_sight(kind, {path for path in kept if marks[path] in services}))
                # [33]: only services that are asked for, and at most as many spans.
                self.assertLessEqual(set(left.services), set(services))
                self.assertLessEqual(len(left), len(sight))
                self.assertIs(True, left == left.left(services))


class CouldBe(SightCase):

    def test_by_hand(self):
        for pieces, trees in [((), KINDS), ((TOP,), KINDS), ((PAY,), [WRONG]), ((('top', WRONG),), [WRONG]), ((('top', FINE),), [FINE]), ((PAY, TOP), [])]:
            for tree in KINDS:
                self.gives(tree in trees, Sight(pieces).could_be, tree)
        # Lost callers in one another.
        deep = ('a', 0, (('b', 0, (('a', 1, (('b', 1, ()),)),)),))
        for pieces, wanted in [((('lost', (('b', 1, ()),)), ('top', ('a', 0, ()))), True), ((('lost', (('a', 1, (('b', 1, ()),)),)), ('top', ('a', 0, ()))), True),
                               ((('lost', (('b', 0, ()),)), ('lost', (('b', 1, ()),))), True), ((('lost', (('b', 0, ()), ('b', 1, ()))),), False),
                               ((('top', ('a', 0, (('b', 1, ()),))),), False), ((('lost', (('b', 0, ()),)), ('lost', (('b', 1, ()),)), ('top', ('a', 0, ()))), False),
                               ((('lost', (('a', 1, ()),)),), True), ((('lost', (('a', 0, ()),)),), False), ((('lost', (('a', 1, ()),)), ('lost', (('a', 1, ()),))), False)]:
            self.gives(wanted, Sight(pieces).could_be, deep)
        # Of two lost callers, and of one.
        wide = ('a', 0, (('b', 0, (('c', 0, ()),)), ('b', 0, (('c', 0, ()), ('c', 1, ())))))
        one, other = ('c', 0, ()), ('c', 1, ())
        for pieces, wanted in [((('lost', (one,)), ('lost', (one, other))), True), ((('lost', (one,)), ('lost', (one,)), ('top', ('a', 0, ()))), True), ((('lost', (one, one)),), False),
                               ((('lost', (one, other)), ('top', ('a', 0, (('b', 0, (one,)),)))), True), ((('lost', (one, one, other)),), False),
                               ((('lost', (other,)), ('top', ('a', 0, (('b', 0, (one,)),)))), True), ((('lost', (('b', 0, ()), ('b', 0, (one,)))),), True)]:
            self.gives(wanted, Sight(pieces).could_be, wide)

    def test_each_set_of_kept_spans(self):
        counts = {True: 0, False: 0}
        for chance, kinds, _ in setups(31, 40):
            for tree in kinds:
                known = {pieces for _, pieces in kept_sights(tree)}
                for pieces in known:
                    self.gives(True, Sight(pieces).could_be, tree)
                # Other trees, a call more or less.
                others = [chance.choice(kinds), random_tree(chance, len(oracle.all_paths(tree)), 'ab'), (tree[0], 1 - tree[1], tree[2]), (tree[0], tree[1], tree[2][1:]),
                          (tree[0], tree[1], tuple(sorted(tree[2] + (ALONE,)))), ('a', 0, (tree,))]
                for other in others:
                    for _, pieces in chance.sample(kept_sights(other), 2):
                        counts[pieces in known] += 1
                        self.gives(pieces in known, Sight(pieces).could_be, tree)
        self.assertGreater(min(counts.values()), 100)

    def test_what_comes_could_be(self):
        """[33]."""
        for _, kinds, rules in setups(331, 40):
            for tree in kinds:
                for pieces in oracle.sight_chances(tree, rules):
                    self.gives(True, Sight(pieces).could_be, tree)
        self.gives(True, Sight((TOP,)).could_be, FINE)

    def test_more_spans_than_the_limit(self):
        tree = ('a', 0, tuple(('b', mark, (('c', mark, ()),)) for mark in (0, 0, 1, 1)))
        lost = ('lost', (('c', 0, ()),))
        self.gives(True, Sight((lost, lost, ('top', ('a', 0, ())))).could_be, tree)
        self.gives(False, Sight((lost, lost, lost)).could_be, tree)
