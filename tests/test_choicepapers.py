"""[56] and [57], with [54] and [55]: choice_paper."""

from tests import oracle
from tests.support import ALONE, BIG, FINE, KINDS, NO_QUESTIONS, Case, setups, strange_values
from tests.test_choicechecker import verdict
from tests.test_choosing import NO_ASKED, NO_OPTIONS, best, random_options
from thinspans.choicechecker import lets_choice
from thinspans.choicepapers import choice_paper
from thinspans.choosing import cheapest
from thinspans.errors import NotUsable

ONES = (1, 1, 1)
OPTIONS = (('front', (('own', 1, 2), ('never',))), ('pay', (('bad',), ('own', 1, 1))))
ASKED = ((1, 1, 0),)
ONLY, LOST = (('top', ALONE),), (('lost', (('pay', 1, ()),)),)


class ChoicePaper(Case):

    def holds(self, kinds, options, crowd, questions):
        """That the paper is one by the words of [56]; returns it."""
        paper = choice_paper(kinds, options, crowd, questions)
        self.gives(paper, choice_paper, kinds, options, crowd, questions)
        least = cheapest(kinds, options, crowd, questions)[0]
        self.assertEqual(least, verdict(kinds, options, crowd, questions, paper))
        self.gives(least, lets_choice, kinds, options, crowd, questions, paper)
        return paper

    def test_by_hand(self):
        choice, weights, bars = self.holds(KINDS, OPTIONS, ONES, ASKED)
        self.assertEqual(((0, 0), (((ONLY, (2, 1)),),), 2), (choice, weights, len(bars)))
        # The cheapest of all.
        self.gives(((1, 0), (((LOST, (1, 1)),), ((LOST, (-5, 1)),)), ()), choice_paper, KINDS, OPTIONS, ONES, ((0, 0, 1), (0, 0, -5)))
        self.gives(((0,), ((),), ()), choice_paper, (ALONE,), (('front', (('never',),)),), (BIG,), ((0,),))
        self.assertEqual((), self.holds(KINDS, OPTIONS, (0, 0, 0), ASKED)[2])
        # The bars are about the questions that are not told.
        bars = self.holds(KINDS, OPTIONS, ONES, ((0, 0, 1), (0, 0, 0), (1, 1, 0)))[2]
        self.assertEqual([2, 2], [bar[0] for bar in bars])

    def test_none(self):
        never = (('front', (('never',),)), ('pay', (('never',), ('bad',))))
        self.gives(None, choice_paper, KINDS, never, ONES, ASKED)
        self.gives(None, choice_paper, KINDS, never, ONES, ((0, 0, 1), (1, 1, 0)))
        self.gives(None, choice_paper, (ALONE, FINE), (('front', (('own', 1, 1),)), ('pay', (('never',),))), (1, 1), ((1, 0),))

    def test_papers(self):
        counts = {True: 0, False: 0}
        barred = 0
        for chance, kinds, _ in setups(56, 80, size=3, kinds=4):
            options = random_options(chance, kinds, 12)
            crowd = tuple(chance.choice([0, 1, 2, 99, 10 ** 30]) for _ in kinds)
            questions = tuple(tuple(chance.choice([0, 0, 1, 2, -9]) for _ in kinds) for _ in range(chance.randint(1, 3)))
            found = best(kinds, options, crowd, questions)
            counts[found is None] += 1
            if found is None:
                self.gives(None, choice_paper, kinds, options, crowd, questions)
            else:
                paper = self.holds(kinds, options, crowd, questions)
                self.assertIn(paper[0], found[1])
                barred += len(paper[2])
        self.assertGreater(min(counts.values()), 10)
        self.assertGreater(barred, 30)

    def test_questions_that_are_alike(self):
        for chance, kinds, _ in setups(561, 20, size=3, kinds=3):
            options = random_options(chance, kinds, 6)
            question = oracle.transposed([[1, -2]] * len(kinds))[0]
            if best(kinds, options, (1,) * len(kinds), (tuple(question),)) is not None:
                paper = self.holds(kinds, options, (1,) * len(kinds), (tuple(question),) * 4)
                self.assertEqual(4, len(paper[1]))

    def test_not_usable(self):
        for thing in strange_values() + NO_OPTIONS:
            self.fails(NotUsable('options', -1), choice_paper, KINDS, thing, ONES, ASKED)
            self.fails(NotUsable('options', -1), choice_paper, KINDS, thing, thing, thing)
        for thing in strange_values() + NO_QUESTIONS + [(1, 2, -1)]:
            self.fails(NotUsable('crowd', -1), choice_paper, KINDS, OPTIONS, thing, ASKED)
            self.fails(NotUsable('crowd', -1), choice_paper, KINDS, OPTIONS, thing, ())
        for thing in strange_values() + NO_ASKED:
            self.fails(NotUsable('questions', -1), choice_paper, KINDS, OPTIONS, ONES, thing)
