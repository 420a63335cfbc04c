"""[43] and [45], with [44]: fair_paper; what follows, (T3) behind [45], and [9] (T3)."""

from tests import oracle
from tests.papermodel import fair_verdict
from tests.support import BIG, KINDS, NO_QUESTIONS, RULES, Case, setups, strange_values
from tests.test_fairness import SEEN, TWO, near_questions
from thinspans.asking import is_told
from thinspans.errors import NotUsable
from thinspans.fairchecker import lets_fair
from thinspans.fairness import is_fairly_told
from thinspans.fairpapers import fair_paper


class FairPaper(Case):

    def holds(self, kinds, rules, question):
        """That the paper is one by the words of [43], and is accepted; returns its first word."""
        paper = fair_paper(kinds, rules, question)
        self.gives(paper, fair_paper, kinds, rules, question)
        self.assertEqual((tuple, 2), (type(paper), len(paper)))
        wanted = fair_verdict(kinds, rules, question, paper)
        self.assertIs(paper[0] == 'weights', wanted, (kinds, rules, question, paper))
        self.gives(wanted, lets_fair, kinds, rules, question, paper)
        self.gives(wanted, is_fairly_told, kinds, rules, question)
        return paper[0]

    def test_by_hand(self):
        self.gives(('weights', ((SEEN, (2, 1)),)), fair_paper, KINDS, RULES, (1, 1, 0))
        self.gives(('weights', ()), fair_paper, KINDS, RULES, (0, 0, 0))
        for question in [(1, 1, 3), (BIG, BIG, 1)]:
            self.assertEqual('weights', self.holds(KINDS, RULES, question))
        for question in [(-1, -1, 3), (1, 2, 0), (0, 0, -1), (BIG, -BIG, 0), (1, 0, -5), (-BIG, -BIG, BIG), (BIG + 1, BIG, 0)]:
            self.assertEqual('upward', self.holds(KINDS, RULES, question))
        never = (('front', ('never',)), ('pay', ('caller',)))
        self.gives(('weights', ()), fair_paper, KINDS, never, (0, 0, 0))
        for question in [(1, 1, 1), (0, 0, -1), (0, 5, 0)]:
            self.assertEqual('upward', self.holds(KINDS, never, question))

    def test_told_but_not_fairly(self):
        rules = (('a', ('own', 1, 1)), ('b', ('own', 1, 2)))
        for question, word in [((2, 1), 'weights'), ((3, 1), 'upward'), ((2 * BIG + 1, BIG), 'upward'), ((2 * BIG, BIG), 'weights'), ((1, 0), 'upward')]:
            self.assertTrue(is_told(TWO, rules, question))
            self.assertEqual(word, self.holds(TWO, rules, question))

    def test_one_of_both(self):
        counts = {}
        for chance, kinds, rules in setups(455, 80, kinds=5):
            for question in near_questions(chance, kinds, rules):
                word = self.holds(kinds, rules, question)
                counts[word, oracle.told(kinds, rules, question)] = counts.get((word, oracle.told(kinds, rules, question)), 0) + 1
        self.assertEqual({('weights', True), ('upward', True), ('upward', False)}, set(counts))
        self.assertGreater(min(counts.values()), 30)

    def test_great_integers(self):
        for chance, kinds, rules in setups(456, 30):
            for question in near_questions(chance, kinds, rules):
                self.holds(kinds, rules, tuple(BIG * integer + chance.choice([0, 0, 1]) for integer in question))

    def test_no_questions(self):
        for thing in strange_values() + NO_QUESTIONS:
            self.fails(NotUsable('question', -1), fair_paper, KINDS, RULES, thing)
        self.assertEqual('weights', self.holds(kinds=KINDS, rules=RULES, question=(1, 1, 0)))
