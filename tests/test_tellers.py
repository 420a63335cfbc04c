"""[46], with [34], [38] and [39]."""

from tests import oracle
from tests.support import ALONE, BIG, KINDS, NO_QUESTIONS, RULES, Case, questions, same, setups, strange_values
from tests.test_setups import NO_KINDS, NO_RULES, error_of
from thinspans.blindness import how_many_told, told_with
from thinspans.errors import InvalidPaper, NotUsable
from thinspans.kindchecker import lets_kinds, lets_rules
from thinspans.tellers import Teller

QUESTION, PLACE = NotUsable('question', -1), NotUsable('place', -1)
NEVER = (('front', ('never',)), ('pay', ('never',)))


def rank(kinds, rules, known):
    return oracle.rank(oracle.transposed(oracle.chance_rows(kinds, rules)) + [list(question) for question in known])


class TellerCase(Case):

    def shows(self, teller, kinds, rules, known):
        """That it is a teller with just these known questions."""
        self.assertIs(Teller, type(teller))
        self.assertTrue(same((kinds, rules, known), (teller.kinds, teller.rules, teller.known)))
        self.gives(len(known), len, teller)
        self.assertTrue(same(list(known), list(teller)))
        self.assertTrue(same(list(known), [question for question in teller]))
        self.assertTrue(same(list(known), [teller[k] for k in range(len(known))]))
        self.gives(rank(kinds, rules, known), teller.rank)
        self.assertTrue(all((question in teller) is True for question in known))
        for k in (len(known), -1):
            self.fails_so(PLACE, lambda: teller[k])


class Tellers(TellerCase):

    def test_example(self):
        teller = Teller(KINDS, RULES)
        self.assertTrue(same([False, True, True, 3, False],
                             [(1, 0, 0) in teller, teller.learn((0, 3, 1)), (1, 0, 0) in teller, teller.rank(), teller.learn((5, 0, 2))]))
        self.assertTrue(same([(5, 0, 2), (0, 3, 1), None, 2], [teller.forget(), teller.forget(), teller.forget(), teller.rank()]))

    def test_new(self):
        self.shows(Teller(KINDS, RULES), KINDS, RULES, ())
        self.shows(Teller(kinds=KINDS, rules=RULES), KINDS, RULES, ())
        self.gives(2, Teller(KINDS, RULES).rank)
        self.gives(0, Teller(KINDS, NEVER).rank)
        for _, kinds, rules in setups(46, 30):
            self.shows(Teller(kinds, rules), kinds, rules, ())
            self.gives(how_many_told(kinds, rules), Teller(kinds, rules).rank)

    def test_errors_of_kinds_and_rules(self):
        for kinds in strange_values() + NO_KINDS:
            for rules in [RULES, (), kinds]:
                self.fails(error_of(lets_kinds, kinds), Teller, kinds, rules)
        for rules in strange_values() + NO_RULES:
            self.fails(error_of(lets_rules, KINDS, rules), Teller, KINDS, rules)
        self.fails(InvalidPaper('rise', 1), Teller, (ALONE, ALONE), RULES)
        self.fails(InvalidPaper('service', 0), Teller, KINDS, RULES[::-1])

    def test_learn(self):
        teller = Teller(KINDS, RULES)
        known = ()
        for question, new in [((1, 1, 0), False), ((0, 0, 0), False), ((1, 0, 0), True), ((1, 0, 0), False), ((0, 7, -3), False), ((BIG, 0, 1), False), ((0, 0, -BIG), False)]:
            self.gives(not new, teller.__contains__, question)
            if len(known) % 2:
                self.assertIs(new, teller.learn(question))
            else:
                self.assertIs(new, teller.learn(question=question))
            known += (question,)
            self.shows(teller, KINDS, RULES, known)

    def test_nothing_kept(self):
        teller = Teller(KINDS, NEVER)
        for k, question in enumerate([(1, 2, 3), (2, 4, 6), (0, 0, 1), (1, 2, 0), (5, 0, 0)]):
            self.assertIs(k in (0, 2, 4), teller.learn(question))
        self.gives(3, teller.rank)
        self.assertIs(True, (9, -9, BIG) in teller)

    def test_no_questions(self):
        teller = Teller(KINDS, RULES)
        teller.learn((1, 0, 0))
        for thing in strange_values() + NO_QUESTIONS + [teller, KINDS]:
            self.fails_so(QUESTION, lambda: teller.learn(thing))
            self.assertIs(False, thing in teller)
            self.shows(teller, KINDS, RULES, ((1, 0, 0),))

    def test_forget(self):
        teller = Teller(KINDS, RULES)
        self.assertIs(None, teller.forget())
        self.shows(teller, KINDS, RULES, ())
        asked = ((1, 0, 0), (1, 0, 0), (0, 0, 5), (2, 1, 0))
        for question in asked:
            teller.learn(question)
        for k in range(3, -1, -1):
            self.assertTrue(same(asked[k], teller.forget()))
            self.shows(teller, KINDS, RULES, asked[:k])
        for _ in range(3):
            self.assertIs(None, teller.forget())
        self.shows(teller, KINDS, RULES, ())
        self.assertIs(True, teller.learn((1, 0, 0)))

    def test_places(self):
        teller = Teller(KINDS, RULES)
        for thing in (0, 1, -1):
            self.fails_so(PLACE, lambda: teller[thing])
        for question in [(1, 0, 0), (0, 0, 7), (1, 2, 3)]:
            teller.learn(question)
        self.assertTrue(same([(1, 0, 0), (0, 0, 7), (1, 2, 3)], [teller[k] for k in range(3)]))
        for thing in strange_values() + [3, -1, -3, BIG, True, False, None, '0', (0,), (), [1], (1, 0, 0), slice(0, 2), teller]:
            self.fails_so(PLACE, lambda: teller[thing])

    def test_iterated_twice(self):
        teller = Teller(KINDS, RULES)
        self.assertEqual([], list(teller))
        teller.learn((1, 0, 0))
        teller.learn((0, 0, 7))
        for _ in range(2):
            self.assertEqual([(1, 0, 0), (0, 0, 7)], list(teller))
        self.assertEqual(4, len([(one, other) for one in teller for other in teller]))

    def test_known_stays_as_it_was(self):
        teller = Teller(KINDS, RULES)
        teller.learn((1, 0, 0))
        before = teller.known
        teller.learn((0, 0, 1))
        self.assertEqual(((1, 0, 0),), before)

    def test_copy(self):
        teller = Teller(KINDS, RULES)
        teller.learn((1, 0, 0))
        other = teller.copy()
        self.assertIsNot(teller, other)
        self.shows(other, KINDS, RULES, ((1, 0, 0),))
        self.assertIs(True, teller == other)
        other.learn((0, 0, 7))
        self.shows(teller, KINDS, RULES, ((1, 0, 0),))
        self.shows(other, KINDS, RULES, ((1, 0, 0), (0, 0, 7)))
        self.assertIs(False, teller == other)
        teller.forget()
        self.shows(teller, KINDS, RULES, ())
        self.shows(other, KINDS, RULES, ((1, 0, 0), (0, 0, 7)))
        self.shows(teller.copy(), KINDS, RULES, ())
        third = other.copy()
        other.forget()
        self.shows(third, KINDS, RULES, ((1, 0, 0), (0, 0, 7)))

    def test_equal(self):
        teller = Teller(KINDS, RULES)
        self.assertIs(True, teller == Teller(KINDS, RULES))
        self.assertIs(False, teller != Teller(KINDS, RULES))
        others = [Teller(KINDS, NEVER), Teller(KINDS, (('front', ('own', 2, 4)), ('pay', ('bad',)))), Teller(KINDS[1:], RULES), teller.copy()]
        others[-1].learn((0, 0, 0))
        for other in others:
            self.assertIs(False, teller == other)
            self.assertIs(False, other == teller)
            self.assertIs(True, teller != other)
        # In another order.
        one, two = teller.copy(), teller.copy()
        for question, other in [((1, 0, 0), (0, 0, 1)), ((0, 0, 1), (1, 0, 0))]:
            one.learn(question)
            two.learn(other)
        self.assertIs(False, one == two)
        for thing in strange_values() + [0, (), KINDS, (KINDS, RULES, ()), object()]:
            self.assertIs(False, teller == thing)
            self.assertIs(False, thing == teller)

    def test_random_steps(self):
        counts = {True: 0, False: 0}
        for chance, kinds, rules in setups(461, 80, kinds=5):
            teller, known = Teller(kinds, rules), ()
            for _ in range(8):
                if chance.random() < 0.3:
                    self.assertTrue(same(known[-1] if known else None, teller.forget()))
                    known = known[:-1]
                else:
                    question = chance.choice(questions(chance, kinds, rules, 3))
                    new = rank(kinds, rules, known) < rank(kinds, rules, known + (question,))
                    counts[new] += 1
                    self.assertIs(not new, question in teller)
                    self.gives(not new, told_with, kinds, rules, question, *known)
                    self.assertIs(new, teller.learn(question))
                    known += (question,)
                self.shows(teller, kinds, rules, known)
        self.assertGreater(min(counts.values()), 40)
