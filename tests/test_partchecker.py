"""[52], with [50], [51] and the rows of [47]: lets_parting; what follows, [53], and [9] (T5)."""

from itertools import chain

from tests.papermodel import parting_verdict
from tests.support import BIG, FINE, KINDS, NO_QUESTIONS, RULES, WRONG, Case, names_in, setups, spoiled, strange_values
from tests.test_collecting import APART, BOTH, COLLECTORS, FOUR, JOINED, NO_COLLECTORS, ONLY, PAID, QUESTION, marked_setups, parted, some_questions, told_apart
from tests.test_tellchecker import NO_NUMBERS
from thinspans.collecting import part_weights
from thinspans.errors import InvalidPaper
from thinspans.partchecker import lets_parting
from thinspans.partpapers import parting_paper

TOLD, UNTOLD = (0, 0, 1), (1, 0, 0)
ONE, TWO = (1, PAID), (0, ONLY)
GOOD = ((ONE, (1, 1)),)
CROWDS = ('crowds', (1, 0, 0, 1), (0, 1, 1, 0))
LAST = (0, 0, 0, 1)


class LetsParting(Case):

    def says(self, wanted, *args):
        if isinstance(wanted, tuple):
            self.fails(InvalidPaper(*wanted), lets_parting, *args)
        else:
            self.gives(wanted, lets_parting, *args)

    def bad(self, word, at, thing, question=TOLD, kinds=KINDS, rules=RULES, collectors=APART):
        self.assertEqual((word, at), parting_verdict(kinds, rules, collectors, question, thing))
        self.fails(InvalidPaper(word, at), lets_parting, kinds, rules, collectors, question, thing)

    def bad_of_four(self, word, at, thing, question=LAST):
        self.bad(word, at, thing, question, FOUR, BOTH)

    def test_example(self):
        self.gives(False, lets_parting, FOUR, BOTH, APART, LAST, CROWDS)

    def test_accepted(self):
        self.gives(True, lets_parting, KINDS, RULES, APART, TOLD, ('weights', GOOD))
        self.gives(True, lets_parting, KINDS, RULES, APART, (0, 0, 0), ('weights', ()))
        self.gives(True, lets_parting, KINDS, RULES, APART, (5, 5, 5 - BIG), ('weights', ((TWO, (10, 1)), (ONE, (-BIG, 1)))))
        self.gives(True, lets_parting, KINDS, RULES, APART[::-1], TOLD, ('weights', (((0, PAID), (1, 1)),)))
        self.gives(True, lets_parting, KINDS, RULES, JOINED, (1, 1, 0), ('weights', (((0, ONLY), (2, 1)),)))
        for one, other in [((0, 1, 1, 0), (1, 0, 0, 1)), ((BIG, 0, 0, BIG), (0, BIG, BIG, 0)), ((7, 1, 2, 9), (8, 0, 1, 10))]:
            self.gives(False, lets_parting, FOUR, BOTH, APART, LAST, ('crowds', one, other))
            self.gives(False, lets_parting, FOUR, BOTH, APART[::-1], (1, 2, 3, 9), ('crowds', one, other))
        # Nothing is ever seen.
        never = (('front', ('never',)), ('pay', ('caller',)))
        self.gives(False, lets_parting, KINDS, never, APART, TOLD, ('crowds', (1, 2, 3), (9, 9, 9)))
        self.gives(True, lets_parting, KINDS, never, APART, (0, 0, 0), ('weights', ()))
        self.assertIs(True, lets_parting(kinds=KINDS, rules=RULES, collectors=APART, question=TOLD, thing=('weights', GOOD)))

    def test_shape(self):
        for thing in strange_values() + [
                0, (), 'weights', ('weights',), ('crowds',), ('weights', GOOD, ()), ['weights', GOOD], ('Weights', GOOD), (GOOD, 'weights'), GOOD, ('crowds', (1, 0, 0)),
                ('crowds', (1, 0, 0), (0, 1, 0), ()), ['crowds', (1, 0, 0), (0, 1, 0)], ('upward', (1, 0, 0)), ('weights', (1, 0, 0), (0, 1, 0)), ('crowds', GOOD), (True, GOOD),
                (None, (1, 0, 0), (0, 1, 0)), ('weights', list(GOOD)), ('weights', GOOD[0]), ('weights', 0), ('weights', None), ('weights', ((ONE,),)), ('weights', ((ONE, (1, 1), 0),)),
                ('weights', ([ONE, (1, 1)],)), ('weights', ((ONE, 1),)), ('weights', ((ONE, (2, 2)),)), ('weights', ((ONE, (1, -1)),)), ('weights', ((ONE, [1, 1]),)),
                ('weights', ((ONE, (1, True)),)), ('weights', ((ONE, (1, 0)),)), ('weights', GOOD + (None,)), ('weights', GOOD + ((None, None),)), ('weights', ((None, (2, 4)),))]:
            for question in (TOLD, UNTOLD):
                self.bad('shape', -1, thing, question)
        for wrong in [0, None, [1, 0, 0], (1, 0, -1), (True, 0, 0), (1, False, 0), (1, 0, None), (1, 0, '0'), (1, 0, (0,)), (-BIG, 0, 0), 'abc', (-1,), ((1, 1), (0, 1), (0, 1)), (1, 0, 0, None)]:
            self.bad('shape', -1, ('crowds', wrong, (0, 1, 0)), UNTOLD)
            self.bad('shape', -1, ('crowds', (1, 0, 0), wrong), UNTOLD)
            # Ahead of how many there are.
            self.bad('shape', -1, ('crowds', (1, 0), wrong), UNTOLD)
            self.bad('shape', -1, ('crowds', wrong, ()), UNTOLD)
        for wrong in NO_NUMBERS:
            self.assertIn(parting_verdict(KINDS, RULES, APART, UNTOLD, ('crowds', wrong, (0, 1, 0))), [('shape', -1), ('many', 1)])

    def test_weights(self):
        for known in strange_values() + [
                0, None, (), PAID, ONLY, (1,), (1, PAID, 0), [1, PAID], (2, PAID), (-1, PAID), (0, PAID), (1, ONLY), (True, PAID), (False, ONLY), (1, list(PAID)), (1, ()), (0, ()),
                ('1', PAID), (None, PAID), ((1,), PAID), (0, (('top', FINE),)), (0, (('top', WRONG),)), (0, (('top', ('front', False, ())),)), (1, (('lost', (('pay', True, ()),)),)),
                (1, (('lost', (('pay', 0, ()),)),)), (1, (('top', ('pay', 1, ())),)), (PAID, 1), (BIG, PAID)]:
            for question in (TOLD, UNTOLD, (0, 0, 0)):
                self.bad('weights', -1, ('weights', ((known, (1, 1)),)), question)
                self.bad('weights', -1, ('weights', ((known, (0, 1)),)), question)
                self.bad('weights', -1, ('weights', GOOD + ((known, (1, 1)),)), question)
        for wrong in [((ONE, (0, 1)),), ((TWO, (0, 1)), (ONE, (1, 1))), ((ONE, (1, 1)), (TWO, (1, 1))), GOOD + GOOD, ((ONE, (1, 2)), (ONE, (1, 2))), ((ONE, (1, 2)), (ONE, (1, 3)))]:
            for question in (TOLD, UNTOLD, (5, 6, 7)):
                self.bad('weights', -1, ('weights', wrong), question)
        # Of other collectors, and of joined ones.
        self.bad('weights', -1, ('weights', GOOD), TOLD, KINDS, RULES, APART[::-1])
        self.bad('weights', -1, ('weights', GOOD), TOLD, KINDS, RULES, JOINED)
        self.bad('weights', -1, ('weights', (((0, (('top', WRONG),)), (2, 1)),)))

    def test_tells(self):
        for question, at in [((1, 0, 1), 0), ((0, 1, 1), 1), ((0, 0, 2), 2), ((0, 0, 0), 2), ((0, -1, BIG), 1), ((1, 1, 1), 0)]:
            self.bad('tells', at, ('weights', GOOD), question)
        self.bad('tells', 2, ('weights', ()))
        self.bad('tells', 0, ('weights', ()), UNTOLD)
        self.bad('tells', 2, ('weights', ((ONE, (1, BIG)),)))
        # By other rules.
        self.bad('tells', 2, ('weights', GOOD), TOLD, KINDS, (RULES[0], ('pay', ('own', 1, 3))))

    def test_many(self):
        for wrong in [(), (1,), (1, 0), (1, 0, 0), (1, 0, 0, 1, 0), (0,) * 9]:
            self.bad_of_four('many', 1, ('crowds', wrong, (0, 1, 1, 0)))
            self.bad_of_four('many', 2, ('crowds', (1, 0, 0, 1), wrong))
            self.bad_of_four('many', 1, ('crowds', wrong, wrong))
            # Ahead of the sights.
            self.bad_of_four('many', 2, ('crowds', (BIG, 0, 0, 1), wrong))

    def test_sight(self):
        # The tops by their marks, then what is lost by theirs.
        for one, other, n in [((1, 0, 0, 1), (0, 0, 0, 0), 0), ((1, 0, 0, 0), (0, 1, 0, 0), 2), ((0, 1, 0, 0), (1, 0, 0, 0), 2), ((0, 0, 1, 0), (0, 0, 0, 0), 1), ((1, 0, 0, 0), (0, 0, 1, 0), 0),
                              ((BIG, 5, 5, BIG), (BIG, 5, 6, BIG), 1), ((1, 1, 1, 1), (2, 0, 1, 1), 2), ((0, 0, 0, 1), (0, 0, 1, 0), 2)]:
            for question in (LAST, (0, 0, 0, 0), (1, 1, 1, 1)):
                self.bad_of_four('sight', n, ('crowds', one, other), question)
        rules = (('front', ('own', 1, 1)), ('pay', ('bad',)))
        self.bad('sight', 2, ('crowds', (1, 1, 1, 2), (1, 1, 2, 1)), LAST, FOUR, rules)

    def test_total(self):
        for question, one, other in [((0, 0, 1, 1), *CROWDS[1:]), ((1, 2, 3, 4), *CROWDS[1:]), ((0, 0, 0, 0), *CROWDS[1:]), (LAST, (1, 2, 3, 4), (1, 2, 3, 4)), (LAST, (0, 0, 0, 0), (0, 0, 0, 0)),
                                     ((BIG, 0, BIG, 0), (BIG, 0, 0, BIG), (0, BIG, BIG, 0))]:
            self.bad_of_four('total', -1, ('crowds', one, other), question)

    def test_spoiled_papers(self):
        counts = {}
        for chance, kinds, rules in chain(setups(523, 25), marked_setups(524, 15)):
            collectors = parted(chance, kinds)
            asked = some_questions(chance, kinds, rules, collectors)
            for question in asked:
                paper = parting_paper(kinds, rules, collectors, question)
                self.says(paper[0] == 'weights', kinds, rules, collectors, question, paper)
                for _ in range(8):
                    thing = spoiled(chance, paper, ['weights', 'crowds', (1, 2), (-1, 3), (1,) * len(kinds)])
                    other = chance.choice([question, question, question, chance.choice(asked)])
                    wanted = parting_verdict(kinds, rules, collectors, other, thing)
                    counts[wanted if isinstance(wanted, bool) else wanted[0]] = 1
                    self.says(wanted, kinds, rules, collectors, other, thing)
        self.assertEqual({True, False, 'shape', 'weights', 'tells', 'many', 'sight', 'total'}, set(counts))

    def test_papers_of_others(self):
        for chance, kinds, rules in marked_setups(525, 15):
            services = tuple(sorted(set().union(*[names_in(kind) for kind in kinds])))
            some = [parted(chance, kinds), (services,), tuple((service,) for service in services)]
            asked = some_questions(chance, kinds, rules, some[0])
            for one in some:
                thing = parting_paper(kinds, rules, one, chance.choice(asked))
                for other in some:
                    for question in asked[:3]:
                        wanted = parting_verdict(kinds, rules, other, question, thing)
                        self.says(wanted, kinds, rules, other, question, thing)
                        # What is accepted is true.
                        if isinstance(wanted, bool):
                            self.assertEqual(told_apart(kinds, rules, other, question), wanted)
        self.says(True, KINDS, RULES, APART, TOLD, ('weights', part_weights(KINDS, RULES, APART, TOLD)))

    def test_not_usable(self):
        for thing in strange_values() + NO_COLLECTORS:
            # Ahead of the question and of the paper.
            for question, paper in [(TOLD, ('weights', GOOD)), (thing, thing), ((), None)]:
                self.fails(COLLECTORS, lets_parting, KINDS, RULES, thing, question, paper)
        for thing in strange_values() + NO_QUESTIONS:
            for paper in [('weights', GOOD), CROWDS, None, thing]:
                self.fails(QUESTION, lets_parting, KINDS, RULES, APART, thing, paper)
