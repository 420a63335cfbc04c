"""[52], with [50] and [51]: parting_paper; what follows, [53], and [9] (T5)."""

import random
from itertools import chain

from tests import oracle
from tests.papermodel import parting_verdict
from tests.support import BIG, KINDS, NO_QUESTIONS, RULES, Case, names_in, setups, strange_values
from tests.test_collecting import APART, BOTH, COLLECTORS, FOUR, JOINED, NO_COLLECTORS, PAID, QUESTION, marked_setups, parted, some_questions, told_apart
from thinspans.collecting import is_told_apart
from thinspans.partchecker import lets_parting
from thinspans.partpapers import parting_paper


def many_marked_setups(seed, many):
    """Six kinds that are alike but for their marks, all of which may be seen whole."""
    chance = random.Random(seed)
    marked = [('a', i, (('b', j, (('c', k, ()),)),)) for i in (0, 1) for j in (0, 1) for k in (0, 1)]
    for _ in range(many):
        yield chance, tuple(sorted(chance.sample(marked, 6))), tuple((service, ('own', chance.randint(1, 2), 2)) for service in 'abc')


class PartingPaper(Case):

    def holds(self, kinds, rules, collectors, question):
        """That the paper is one by the words of [52], and is accepted; returns its first word."""
        paper = parting_paper(kinds, rules, collectors, question)
        self.gives(paper, parting_paper, kinds, rules, collectors, question)
        self.assertIs(tuple, type(paper))
        wanted = parting_verdict(kinds, rules, collectors, question, paper)
        self.assertIs(paper[0] == 'weights', wanted, (kinds, rules, collectors, question, paper))
        self.gives(wanted, lets_parting, kinds, rules, collectors, question, paper)
        self.gives(wanted, is_told_apart, kinds, rules, collectors, question)
        return paper[0]

    def test_by_hand(self):
        self.gives(('weights', (((1, PAID), (1, 1)),)), parting_paper, KINDS, RULES, APART, (0, 0, 1))
        self.gives(('weights', ()), parting_paper, KINDS, RULES, APART, (0, 0, 0))
        for question in [(0, 0, 0, 1), (1, 0, 0, 0), (1, 2, 3, 9), (1, 0, 0, 1), (BIG, 0, 0, 0)]:
            self.assertEqual('crowds', self.holds(FOUR, BOTH, APART, question))
            self.assertEqual('crowds', self.holds(FOUR, BOTH, APART[::-1], question))
            self.assertEqual('weights', self.holds(FOUR, BOTH, JOINED, question))
        for question in [(0, 0, 1, 1), (0, 1, 0, 1), (1, 2, 3, 4), (BIG, 0, BIG, 0), (0, 0, 0, 0)]:
            self.assertEqual('weights', self.holds(FOUR, BOTH, APART, question))
        never = (('front', ('never',)), ('pay', ('caller',)))
        self.gives(('weights', ()), parting_paper, KINDS, never, APART, (0, 0, 0))
        self.assertEqual('crowds', self.holds(KINDS, never, APART, (0, 0, 1)))
        self.assertEqual('crowds', self.holds(kinds=KINDS, rules=RULES, collectors=APART, question=(1, 0, 0)))

    def test_one_of_both(self):
        counts = {}
        for chance, kinds, rules in chain(setups(52, 25, kinds=5), many_marked_setups(521, 10)):
            everyone = (tuple(sorted(set().union(*[names_in(kind) for kind in kinds]))),)
            for collectors in (parted(chance, kinds), everyone):
                ones = [tuple(int(n == k) for n in range(len(kinds))) for k in range(len(kinds))]
                for question in some_questions(chance, kinds, rules, collectors) + ones:
                    word = self.holds(kinds, rules, collectors, question)
                    self.assertEqual(told_apart(kinds, rules, collectors, question), word == 'weights')
                    told = oracle.told(kinds, rules, question)
                    counts[word, told] = counts.get((word, told), 0) + 1
                    # [53]: with one collector of all services it is what is told.
                    if collectors == everyone:
                        self.assertEqual(told, word == 'weights')
        self.assertEqual({('weights', True), ('crowds', True), ('crowds', False)}, set(counts))
        self.assertGreater(min(counts.values()), 10)

    def test_great_integers(self):
        for chance, kinds, rules in marked_setups(522, 20):
            collectors = parted(chance, kinds)
            for question in some_questions(chance, kinds, rules, collectors):
                self.holds(kinds, rules, collectors, tuple(BIG * integer for integer in question))

    def test_no_collectors_and_no_questions(self):
        for thing in strange_values() + NO_COLLECTORS:
            self.fails(COLLECTORS, parting_paper, KINDS, RULES, thing, (0, 0, 1))
            # Ahead of the question.
            self.fails(COLLECTORS, parting_paper, KINDS, RULES, thing, thing)
        for thing in strange_values() + NO_QUESTIONS:
            self.fails(QUESTION, parting_paper, KINDS, RULES, APART, thing)
