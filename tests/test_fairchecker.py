"""[43] and [45], with [6], [7] and [34]: lets_fair; what follows, (T3) behind [45], and [9] (T3)."""

from tests import oracle
from tests.papermodel import fair_verdict
from tests.support import ALONE, BIG, FINE, KINDS, NO_QUESTIONS, RULES, WRONG, Case, setups, spoiled, strange_values
from tests.test_fairness import near_questions, whole
from thinspans.asking import weights_for
from thinspans.errors import InvalidPaper, NotUsable
from thinspans.fairchecker import lets_fair
from thinspans.fairness import fair_weights_for

SEEN, LOST, FULL = (('top', ALONE),), (('lost', (('pay', 1, ()),)),), (('top', WRONG),)
HALF = ((SEEN, (2, 1)),)
BOTH = (1, 1, 0)
EVERY = (('front', ('own', 1, 1)), ('pay', ('own', 1, 1)))


def paper_of(kinds, rules, question):
    """A fair paper, by the rays of the tests."""
    weights = fair_weights_for(kinds, rules, question)
    if weights is not None:
        return ('weights', weights)
    ray = next(ray for ray in oracle.upward_rays(kinds, rules) if sum(a * b for a, b in zip(ray, question)) < 0)
    return ('upward', whole(ray))


class LetsFair(Case):

    def says(self, wanted, *args):
        if isinstance(wanted, tuple):
            self.fails(InvalidPaper(*wanted), lets_fair, *args)
        else:
            self.gives(wanted, lets_fair, *args)

    def bad(self, word, at, thing, question=BOTH, kinds=KINDS, rules=RULES):
        self.assertEqual((word, at), fair_verdict(kinds, rules, question, thing))
        self.fails(InvalidPaper(word, at), lets_fair, kinds, rules, question, thing)

    def test_example(self):
        self.gives(False, lets_fair, KINDS, RULES, (1, 2, 0), ('upward', (1, -1, 0)))

    def test_accepted(self):
        self.gives(True, lets_fair, KINDS, RULES, BOTH, ('weights', HALF))
        self.gives(True, lets_fair, KINDS, RULES, (0, 0, 0), ('weights', ()))
        for weights in [((LOST, (2, 1)),), ((LOST, (1, BIG)), (FULL, (2 * BIG - 1, BIG)))]:
            self.gives(True, lets_fair, KINDS, RULES, (0, 0, 1), ('weights', weights))
        for question, difference in [((-1, -1, 3), (1, 0, 0)), ((-1, -1, 3), (0, 1, 0)), ((-1, -1, 3), (3, -2, 0)), ((1, 2, 0), (BIG, -BIG, 0)), ((0, 0, -1), (0, 0, 1)),
                                     ((1, 2, BIG), (1, -1, 0)), ((5, -5, 0), (0, 1, 0)), ((5, -5, 9), (-1, 2, 0)), ((1, 1, -1), (1, 0, 2))]:
            self.gives(False, lets_fair, KINDS, RULES, question, ('upward', difference))
        # Nothing is ever seen.
        never = (('front', ('never',)), ('pay', ('caller',)))
        self.gives(False, lets_fair, KINDS, never, (0, 0, 1), ('upward', (5, 5, -1)))
        self.gives(True, lets_fair, KINDS, never, (0, 0, 0), ('weights', ()))
        self.assertIs(True, lets_fair(kinds=KINDS, rules=RULES, question=BOTH, thing=('weights', HALF)))

    def test_form(self):
        for thing in strange_values() + [
                0, (), 'weights', 'upward', ('weights',), ('upward',), ('weights', HALF, ()), ('upward', (1, -1, 0), ()), ['weights', HALF], ['upward', (1, -1, 0)],
                ('Weights', HALF), ('upwards', (1, -1, 0)), (HALF, 'weights'), HALF, ('crowds', (1, 0, 0), (0, 1, 0)), ('crowds', (1, 0, 0)), (0, HALF), (True, HALF),
                (None, (1, -1, 0)), (('upward',), (1, -1, 0)), ('up', (1, -1, 0)), ('', HALF)]:
            for question in (BOTH, (1, 2, 0)):
                self.bad('form', -1, thing, question)

    def test_weights(self):
        for wrong in strange_values() + [
                0, list(HALF), HALF[0], HALF + HALF, ((SEEN, (4, 2)),), ((SEEN, [2, 1]),), ((SEEN, (2, True)),), ((SEEN, (2, 1), 0),), ((SEEN, (0, 1)),),
                ((LOST, (0, 1)), (SEEN, (2, 1))), (((), (1, 1)),), (((('top', FINE),), (2, 1)),), ((None, (2, 1)),), (((('top', ('front', False, ())),), (2, 1)),),
                ((FULL, (1, 1)), (SEEN, (2, 1))), ((SEEN, (2, 1)), (LOST, (-1, 1))), ((SEEN, (1, 1)), (SEEN, (1, 1))), ((SEEN, (-2, -1)),), (1, -1, 0)]:
            for question in (BOTH, (1, 0, 0), (1, 2, 3)):
                self.bad('weights', -1, ('weights', wrong), question)

    def test_kind(self):
        for question, at in [((1, 0, 0), 1), ((0, 1, 0), 0), ((1, 1, 1), 2), ((-1, 1, 0), 0), ((0, 0, 0), 0)]:
            self.bad('kind', at, ('weights', HALF), question)
        # Ahead of a weight below 0.
        self.bad('kind', 0, ('weights', ((SEEN, (-2, 1)),)))
        self.bad('kind', 2, ('weights', ((LOST, (-1, 1)), (SEEN, (2, 1)))))
        self.bad('kind', 2, ('weights', ((LOST, (-1, 1)), (FULL, (2, 1)))), (0, 0, 1))

    def test_below(self):
        self.bad('below', 0, ('weights', ((SEEN, (-2, 1)),)), (-1, -1, 0))
        self.bad('below', 0, ('weights', ((LOST, (-1, 1)), (FULL, (1, 1)))), (0, 0, 0))
        self.bad('below', 1, ('weights', ((LOST, (BIG, 1)), (FULL, (-BIG, 1)))), (0, 0, 0))
        # LOST, SEEN and FULL: the first weight below 0 at each of them.
        for question, at in [((1, 1, -1), 0), ((-1, -1, 2), 1), ((-1, -1, -1), 0)]:
            self.bad('below', at, ('weights', weights_for(KINDS, RULES, question)), question)
        self.bad('below', 2, ('weights', ((LOST, (9, 1)), (SEEN, (2, 1)), (FULL, (-1, 1)))), (1, 1, 4))
        for k in range(3):
            question = tuple(-1 if n == k else 1 for n in range(3))
            self.bad('below', k, ('weights', tuple(((('top', kind),), (integer, 1)) for kind, integer in zip(KINDS, question))), question, KINDS, EVERY)
            self.bad('below', k, ('weights', tuple(((('top', kind),), (-1 if n >= k else 1, 1)) for n, kind in enumerate(KINDS))),
                     tuple(-1 if n >= k else 1 for n in range(3)), KINDS, EVERY)

    def test_difference(self):
        for wrong in strange_values() + [0, (), (1,), (1, -1), (1, -1, 0, 0), [1, -1, 0], (1, -1, False), (True, -1, 0), (1, -1, None), (1, -1, '0'), (1, -1, (0,)),
                                         ((1, -1, 0),), ((1, 1), (-1, 1), (0, 1)), HALF]:
            self.bad('difference', -1, ('upward', wrong), (1, 2, 0))
            # Whatever its sum with the question would be.
            self.bad('difference', -1, ('upward', wrong), (0, 0, 0))

    def test_sight(self):
        # LOST, SEEN and FULL.
        for difference, n in [((0, 0, -1), 0), ((-9, 0, -1), 0), ((-1, 0, 0), 1), ((1, -2, 0), 1), ((1, -2, 5), 1), ((BIG, -BIG - 1, BIG), 1), ((-1, -1, -1), 0), ((0, 0, -BIG), 0)]:
            for question in ((1, 2, 0), (0, 0, 0), (-1, -1, -1), (9, 9, 9)):
                self.bad('sight', n, ('upward', difference), question)
        for k in range(3):
            self.bad('sight', k, ('upward', tuple(-1 if n >= k else 1 for n in range(3))), (1, 1, 1), KINDS, EVERY)
            self.bad('sight', k, ('upward', tuple(-1 if n == k else 0 for n in range(3))), (1, 1, 1), KINDS, EVERY)

    def test_sum(self):
        for question, difference in [((1, 2, 0), (0, 0, 0)), ((1, 2, 0), (-1, 1, 0)), ((1, 2, 0), (2, -1, 0)), ((1, 2, 0), (2, -1, 9)), ((1, 1, 1), (1, -1, 0)),
                                     ((0, 0, 0), (1, 5, 5)), ((1, 2, 3), (1, 1, 1)), ((-1, -1, 2), (1, 1, 1)), ((-BIG, BIG, 0), (0, 1, 0))]:
            self.bad('sum', -1, ('upward', difference), question)
        # 0, and just below.
        self.bad('sum', -1, ('upward', (BIG, 1, 0)), (-1, BIG, 0))
        self.gives(False, lets_fair, KINDS, RULES, (-1, BIG - 1, 0), ('upward', (BIG, 1, 0)))

    def test_spoiled_papers(self):
        counts = {}
        for chance, kinds, rules in setups(453, 60):
            asked = near_questions(chance, kinds, rules)
            for question in asked[::2]:
                paper = paper_of(kinds, rules, question)
                self.says(paper[0] == 'weights', kinds, rules, question, paper)
                if oracle.told(kinds, rules, question):
                    thing = ('weights', weights_for(kinds, rules, question))
                    wanted = fair_verdict(kinds, rules, question, thing)
                    counts[wanted if isinstance(wanted, bool) else wanted[0]] = 1
                    self.says(wanted, kinds, rules, question, thing)
                for _ in range(10):
                    thing = spoiled(chance, paper, ['weights', 'upward', (1, 2), (-1, 3), (1,) * len(kinds)])
                    other = chance.choice([question, question, question, chance.choice(asked)])
                    wanted = fair_verdict(kinds, rules, other, thing)
                    counts[wanted if isinstance(wanted, bool) else wanted[0]] = 1
                    self.says(wanted, kinds, rules, other, thing)
        self.assertEqual({True, False, 'form', 'weights', 'kind', 'below', 'difference', 'sight', 'sum'}, set(counts))

    def test_what_is_accepted_is_true(self):
        """(T3): never both forms."""
        for chance, kinds, rules in setups(454, 60, kinds=3):
            for question in near_questions(chance, kinds, rules):
                fair = oracle.fairly_told(kinds, rules, question)
                self.gives(fair, lets_fair, kinds, rules, question, paper_of(kinds, rules, question))
                for _ in range(5):
                    thing = ('upward', tuple(chance.randint(-2, 3) for _ in kinds))
                    wanted = fair_verdict(kinds, rules, question, thing)
                    self.says(wanted, kinds, rules, question, thing)
                    if fair:
                        self.assertIsNot(False, wanted)

    def test_not_usable(self):
        for thing in strange_values() + NO_QUESTIONS:
            for paper in [('weights', HALF), ('upward', (1, -1, 0)), None, thing]:
                self.fails(NotUsable('question', -1), lets_fair, KINDS, RULES, thing, paper)
