"""[40] and [41], with [6], [7], [34], [35] and [37]: lets_told; what follows, [42], and [9] (T1)."""

from tests import oracle
from tests.papermodel import told_verdict
from tests.support import (
    ALONE, BIG, FINE, KINDS, NO_QUESTIONS, RULES, WRONG, Case, questions, setups, spoiled, strange_values)
from thinspans.asking import is_told, weights_for
from thinspans.blindness import blind_base
from thinspans.errors import InvalidPaper, NotUsable
from thinspans.tellchecker import lets_told
from thinspans.tellpapers import tell_paper

SEEN, LOST, FULL = (('top', ALONE),), (('lost', (('pay', 1, ()),)),), (('top', WRONG),)
BOTH, UNTOLD = (1, 1, 0), (1, 0, 0)
HALF = ((SEEN, (2, 1)),)
CROWDS = ('crowds', (1, 0, 0), (0, 1, 0))
NO_NUMBERS = [0, None, (), (1,), (1, 0), (1, 0, 0, 0), [1, 0, 0], (1, 0, -1), (True, 0, 0), (1, False, 0), (1, 0, None), (1, 0, '0'), (1, 0, (0,)),
              (-BIG, 0, 0), 'abc', ((1, 0, 0),), ((1, 1), (0, 1), (0, 1))]


class LetsTold(Case):

    def says(self, wanted, *args):
        if isinstance(wanted, tuple):
            self.fails(InvalidPaper(*wanted), lets_told, *args)
        else:
            self.gives(wanted, lets_told, *args)

    def bad(self, word, at, thing, question=BOTH, kinds=KINDS, rules=RULES):
        self.assertEqual((word, at), told_verdict(kinds, rules, question, thing))
        self.fails(InvalidPaper(word, at), lets_told, kinds, rules, question, thing)

    def test_example(self):
        self.gives(True, lets_told, KINDS, RULES, BOTH, ('weights', HALF))
        self.gives(False, lets_told, KINDS, RULES, UNTOLD, CROWDS)
        self.fails(InvalidPaper('kind', 1), lets_told, KINDS, RULES, (1, 0, 1), ('weights', HALF))

    def test_accepted(self):
        self.gives(True, lets_told, KINDS, RULES, (0, 0, 0), ('weights', ()))
        for weights in [((LOST, (2, 1)),), ((FULL, (2, 1)),), ((LOST, (1, 1)), (FULL, (1, 1))), ((LOST, (-1, 3)), (FULL, (7, 3)))]:
            self.gives(True, lets_told, KINDS, RULES, (0, 0, 1), ('weights', weights))
        self.gives(True, lets_told, KINDS, RULES, (-BIG, -BIG, 0), ('weights', ((SEEN, (-2 * BIG, 1)),)))
        for one, other in [((0, 1, 0), (1, 0, 0)), ((BIG, 0, 5), (0, BIG, 5)), ((3, 4, 0), (4, 3, 0)), ((BIG, 1, BIG), (BIG + 1, 0, BIG))]:
            self.gives(False, lets_told, KINDS, RULES, UNTOLD, ('crowds', one, other))
            self.gives(False, lets_told, KINDS, RULES, (0, -1, 7), ('crowds', other, one))
        # Nothing is ever seen.
        never = (('front', ('never',)), ('pay', ('caller',)))
        self.gives(False, lets_told, KINDS, never, (0, 0, 1), ('crowds', (1, 2, 3), (9, 9, 9)))
        self.gives(True, lets_told, KINDS, never, (0, 0, 0), ('weights', ()))
        self.assertIs(True, lets_told(kinds=KINDS, rules=RULES, question=BOTH, thing=('weights', HALF)))

    def test_form(self):
        for thing in strange_values() + [
                0, (), 'weights', 'crowds', ('weights',), ('weights', HALF, ()), ['weights', HALF], ('Weights', HALF), ('weights ', HALF),
                (HALF, 'weights'), HALF, ('crowds',), ('crowds', (1, 0, 0)), CROWDS + ((0, 0, 0),), list(CROWDS), ('Crowds', *CROWDS[1:]),
                ('weights', (1, 0, 0), (0, 1, 0)), ('crowds', HALF), ('upward', (1, -1, 0)), (0, HALF), (True, HALF), (None, (1, 0, 0), (0, 1, 0)),
                (('weights',), HALF), (('weights', HALF),)]:
            for question in (BOTH, UNTOLD):
                self.bad('form', -1, thing, question)

    def test_weights(self):
        for wrong in strange_values() + [
                0, None, list(HALF), HALF[0], HALF + HALF, ((SEEN, (4, 2)),), ((SEEN, (2, -1)),), ((SEEN, [2, 1]),), ((SEEN, (2, True)),),
                ([SEEN, (2, 1)],), ((SEEN, (2, 1), 0),), ((SEEN,),), ((SEEN, 2),), ((SEEN, (0, 1)),), ((LOST, (0, 1)), (SEEN, (2, 1))),
                (((), (1, 1)),), (((), (1, 1)), (SEEN, (2, 1))), (((('top', FINE),), (2, 1)),), ((None, (2, 1)),), ((list(SEEN), (2, 1)),),
                (((('top', ('front', False, ())),), (2, 1)),), (((('lost', (('pay', True, ()),)),), (2, 1)),), ((FULL, (1, 1)), (SEEN, (2, 1))),
                ((SEEN, (2, 1)), (LOST, (1, 1))), ((LOST, (1, 1)), (LOST, (1, 1)), (SEEN, (2, 1))), ((SEEN, (1, 1)), (SEEN, (1, 1))),
                ((SEEN, (2, 1)), None), (((('top', ('back', 0, ())),), (1, 1)),), CROWDS[1:]]:
            # The question of zeros is told by no weights, of which () are some.
            if wrong != ():
                for question in (BOTH, UNTOLD, (0, 0, 0), (5, 6, 7)):
                    self.bad('weights', -1, ('weights', wrong), question)

    def test_kind(self):
        for question, at in [((1, 0, 0), 1), ((0, 1, 0), 0), ((1, 1, 1), 2), ((2, 1, 0), 0), ((1, 2, 3), 1), ((0, 0, 0), 0), ((1, 1, BIG), 2), ((-1, 1, 0), 0)]:
            self.bad('kind', at, ('weights', HALF), question)
        self.bad('kind', 0, ('weights', ()), BOTH)
        self.bad('kind', 2, ('weights', ()), (0, 0, -1))
        self.bad('kind', 2, ('weights', ((LOST, (1, 1)),)), (0, 0, 1))
        self.bad('kind', 0, ('weights', ((SEEN, (1, 2)),)), (1, 1, 0))
        # Weights that tell it by other rules.
        other = (('front', ('own', 1, 3)), ('pay', ('bad',)))
        self.bad('kind', 0, ('weights', weights_for(KINDS, other, BOTH)), BOTH)
        self.bad('weights', -1, ('weights', weights_for(KINDS, (('front', ('own', 1, 1)), ('pay', ('own', 1, 1))), BOTH)), BOTH)

    def test_crowd(self):
        for wrong in strange_values() + NO_NUMBERS:
            self.bad('crowd', 1, ('crowds', wrong, (0, 1, 0)), UNTOLD)
            self.bad('crowd', 2, ('crowds', (1, 0, 0), wrong), UNTOLD)
            self.bad('crowd', 1, ('crowds', wrong, wrong), UNTOLD)
            # Ahead of the sights.
            self.bad('crowd', 2, ('crowds', (1, 0, 9), wrong), UNTOLD)
        # A fourth kind.
        self.bad('crowd', 1, CROWDS, (1, 0), (ALONE, FINE), RULES)

    def test_sight(self):
        # LOST, SEEN and FULL.
        for one, other, n in [((0, 0, 1), (0, 0, 0), 0), ((0, 0, 0), (0, 0, BIG), 0), ((1, 0, 1), (1, 1, 0), 0), ((1, 0, 0), (0, 0, 0), 1), ((2, 2, 3), (2, 3, 3), 1),
                              ((BIG, BIG, BIG), (BIG, BIG + 1, BIG), 1), ((BIG, BIG, BIG), (BIG, BIG, BIG + 1), 0)]:
            for question in (UNTOLD, (0, 0, 0), (0, 0, 1)):
                self.bad('sight', n, ('crowds', one, other), question)
        rules = (('front', ('own', 1, 1)), ('pay', ('own', 1, 1)))
        for k in range(3):
            self.bad('sight', k, ('crowds', (0,) * k + (1,) + (0,) * (2 - k), (0, 0, 0)), UNTOLD, KINDS, rules)

    def test_same(self):
        for question, one, other in [(BOTH, (1, 0, 0), (0, 1, 0)), (UNTOLD, (1, 2, 3), (1, 2, 3)), ((0, 0, 0), (1, 0, 0), (0, 1, 0)),
                                     ((0, 0, 1), (BIG, 0, 7), (0, BIG, 7)), ((2, 2, -9), (4, 0, 1), (0, 4, 1)), (UNTOLD, (0, 0, 0), (0, 0, 0))]:
            self.bad('same', -1, ('crowds', one, other), question)

    def test_spoiled_papers(self):
        counts = {}
        for chance, kinds, rules in setups(411, 60, kinds=5):
            asked = questions(chance, kinds, rules, 3)
            for question in asked:
                paper = tell_paper(kinds, rules, question)
                self.says(paper[0] == 'weights', kinds, rules, question, paper)
                for _ in range(10):
                    thing = spoiled(chance, paper, ['weights', 'crowds', (1, 2), (-1, 3), (1,) * len(kinds)])
                    other = chance.choice([question, question, question, chance.choice(asked)])
                    wanted = told_verdict(kinds, rules, other, thing)
                    counts[wanted if isinstance(wanted, bool) else wanted[0]] = 1
                    self.says(wanted, kinds, rules, other, thing)
        self.assertEqual({True, False, 'form', 'weights', 'kind', 'crowd', 'sight', 'same'}, set(counts))

    def test_papers_of_others(self):
        for chance, kinds, rules in setups(412, 40):
            one, other = [questions(chance, kinds, rules, 1)[1] for _ in range(2)]
            for thing in [tell_paper(kinds, rules, other), tell_paper(KINDS, RULES, BOTH), tell_paper(KINDS, RULES, UNTOLD)]:
                self.says(told_verdict(kinds, rules, one, thing), kinds, rules, one, thing)

    def test_not_usable(self):
        for thing in strange_values() + NO_QUESTIONS:
            for paper in [('weights', HALF), CROWDS, None, thing, ('weights', None)]:
                self.fails(NotUsable('question', -1), lets_told, KINDS, RULES, thing, paper)


class Consequences(Case):
    """[42] and (T1): what is accepted is true, so no question has papers of both forms."""

    def test_one_form_alone(self):
        counts = {True: 0, False: 0}
        for chance, kinds, rules in setups(42, 60):
            base = blind_base(kinds, rules)
            for question in questions(chance, kinds, rules):
                told = oracle.told(kinds, rules, question)
                counts[told] += 1
                self.gives(told, lets_told, kinds, rules, question, tell_paper(kinds, rules, question))
                self.gives(told, is_told, kinds, rules, question)
                # Alike crowds do not show it of a told question, nor any other crowds.
                for difference in base + (tuple(chance.randint(-2, 2) for _ in kinds),):
                    thing = ('crowds', tuple(max(part, 0) for part in difference), tuple(max(-part, 0) for part in difference))
                    if told:
                        self.assertRaises(InvalidPaper, lets_told, kinds, rules, question, thing)
        self.assertGreater(min(counts.values()), 50)
