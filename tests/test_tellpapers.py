"""[40] and [41], with [34] and [37]; what follows, [42], and [9] (T1)."""

from tests import oracle
from tests.support import ALONE, BIG, FINE, KINDS, NO_QUESTIONS, RULES, Case, questions, setups, strange_values
from thinspans.asking import is_told
from thinspans.blindness import are_alike, blind_base, how_many_told
from thinspans.errors import NotUsable
from thinspans.kinds import is_fraction
from thinspans.sighting import all_sights
from thinspans.tellpapers import tell_paper

ONLY = (('top', ALONE),)


class TellPaper(Case):

    def holds(self, kinds, rules, question):
        """That the paper is one by the words of [40]; returns its first word."""
        paper = tell_paper(kinds, rules, question)
        self.gives(paper, tell_paper, kinds, rules, question)
        self.assertIs(tuple, type(paper))
        if paper[0] == 'weights':
            self.assertEqual(2, len(paper))
            self.tells(kinds, rules, question, paper[1])
        else:
            self.assertEqual(('crowds', 3), (paper[0], len(paper)))
            self.shows(kinds, rules, question, *paper[1:])
        return paper[0]

    def tells(self, kinds, rules, question, weights):
        self.assertIs(tuple, type(weights))
        known = [sight for sight, _ in weights]
        self.assertEqual(sorted(set(known)), known)
        self.assertLessEqual(set(known), set(all_sights(kinds, rules)))
        self.assertTrue(all(type(pair) is tuple and is_fraction(pair[1]) and pair[1] != (0, 1) for pair in weights))
        self.assertEqual(list(question), oracle.weight_sums(kinds, rules, weights))

    def shows(self, kinds, rules, question, one, other):
        for crowd in (one, other):
            self.assertTrue(type(crowd) is tuple and len(crowd) == len(kinds))
            self.assertTrue(all(type(number) is int and number >= 0 for number in crowd))
        for column in oracle.transposed(oracle.chance_rows(kinds, rules)):
            self.assertEqual(*[sum(number * entry for number, entry in zip(crowd, column)) for crowd in (one, other)])
        self.assertNotEqual(*[sum(number * integer for number, integer in zip(crowd, question)) for crowd in (one, other)])

    def test_by_hand(self):
        self.gives(('weights', ((ONLY, (2, 1)),)), tell_paper, KINDS, RULES, (1, 1, 0))
        self.gives(('weights', ()), tell_paper, KINDS, RULES, (0, 0, 0))
        for question in [(1, 0, 0), (0, -1, 5), (2, 1, -BIG), (BIG, 0, 0)]:
            self.assertEqual('crowds', self.holds(KINDS, RULES, question))
        never = (('front', ('never',)), ('pay', ('caller',)))
        self.gives(('weights', ()), tell_paper, KINDS, never, (0, 0, 0))
        for question in [(1, 1, 1), (0, 0, 1), (0, -7, 0)]:
            self.assertEqual('crowds', self.holds(KINDS, never, question))

    def test_several_that_look_alike(self):
        # The first two kinds look alike, and so do the others.
        kinds = tuple((top, 0, calls) for top in 'ac' for calls in ((), (('b', 0, ()),)))
        rules = (('a', ('own', 1, 1)), ('b', ('never',)), ('c', ('own', 1, 2)))
        self.assertEqual(2, len(blind_base(kinds, rules)))
        for question in [(1, 0, 1, 0), (0, 2, 0, -7), (1, 2, 3, 4), (1, 0, 5, 5), (5, 5, 0, 1)]:
            self.assertEqual('crowds', self.holds(kinds, rules, question))
        self.assertEqual('weights', self.holds(kinds, rules, (3, 3, -4, -4)))

    def test_one_of_both(self):
        counts = {'weights': 0, 'crowds': 0}
        for chance, kinds, rules in setups(41, 70):
            for question in questions(chance, kinds, rules):
                word = self.holds(kinds, rules, question)
                counts[word] += 1
                self.assertEqual(oracle.told(kinds, rules, question), word == 'weights')
                self.assertEqual(is_told(kinds, rules, question), word == 'weights')
        self.assertGreater(min(counts.values()), 50)

    def test_great_integers(self):
        for chance, kinds, rules in setups(411, 30):
            for question in questions(chance, kinds, rules, 2):
                self.holds(kinds, rules, tuple(BIG * integer for integer in question))

    def test_consequences(self):
        """[42]."""
        for chance, kinds, rules in setups(42, 50):
            base = blind_base(kinds, rules)
            self.assertEqual(len(kinds), how_many_told(kinds, rules) + len(base))
            asked = questions(chance, kinds, rules)
            for question in asked:
                sums = [sum(a * b for a, b in zip(question, difference)) for difference in base]
                self.assertEqual(tell_paper(kinds, rules, question)[0] == 'weights', not any(sums))
            # Alike crowds have one total of each told question.
            one = tuple(chance.randint(0, 3) for _ in kinds)
            for difference in base:
                other = tuple(a + b for a, b in zip(one, difference))
                if min(other) >= 0:
                    self.assertTrue(are_alike(kinds, rules, one, other))
                    for question in asked:
                        if is_told(kinds, rules, question):
                            self.assertEqual(sum(a * b for a, b in zip(question, one)), sum(a * b for a, b in zip(question, other)))

    def test_no_questions(self):
        for thing in strange_values() + NO_QUESTIONS:
            self.fails(NotUsable('question', -1), tell_paper, KINDS, RULES, thing)
        self.assertEqual('weights', self.holds((FINE,), (('front', ('never',)), ('pay', ('own', 1, 9))), (-9,)))
