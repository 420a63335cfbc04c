"""[58] and [59], with [50], [51], [54] and the rows of [47]; what follows, [60]."""

from itertools import chain

from tests import oracle
from tests.support import ALONE, BIG, FINE, KINDS, RULES, WRONG, Case, names_in, questions, random_rules, setups, spoiled, strange_values
from tests.test_choosing import NO_ASKED
from tests.test_collecting import APART, BOTH, COLLECTORS, FOUR, JOINED, NO_COLLECTORS, marked_setups, parted, some_questions, told_apart
from thinspans.asking import is_told
from thinspans.choosing import cheapest
from thinspans.collecting import is_told_apart
from thinspans.errors import NotUsable
from thinspans.losing import lost_apart, lost_by

QUESTIONS = NotUsable('questions', -1)
NEVER, NO_FRONT = (('front', ('never',)), ('pay', ('never',))), (('front', ('never',)), ('pay', ('bad',)))
ASKED = ((1, 1, 0), (0, 0, 1), (1, 0, 0), (0, 0, 0), (1, 1, 5), (0, 0, 1))


class LostBy(Case):

    def test_by_hand(self):
        self.gives((0, 4), lost_by, KINDS, RULES, NO_FRONT, ASKED)
        self.gives((0, 1, 4, 5), lost_by, KINDS, RULES, NEVER, ASKED)
        self.gives((), lost_by, KINDS, NEVER, RULES, ASKED)
        self.gives((), lost_by, KINDS, NO_FRONT, RULES, ASKED)
        self.gives((2,), lost_by, KINDS, BOTH, RULES, ASKED)
        self.gives((0, 1), lost_by, KINDS, BOTH, NEVER, ((1, 2, 3), (BIG, 0, 0)))
        self.gives((), lost_by, KINDS, RULES, NEVER, ((1, 0, 0),))
        self.gives((0,), lost_by, KINDS, RULES, NEVER, ((1, 1, 0),))
        self.gives((0, 1, 2), lost_by, KINDS, RULES, NEVER, ((1, 1, 0),) * 3)
        self.assertEqual((0, 4), lost_by(kinds=KINDS, rules=RULES, other=NO_FRONT, questions=ASKED))

    def test_the_same_rules(self):
        """[60]."""
        for chance, kinds, rules in setups(58, 40):
            self.gives((), lost_by, kinds, rules, rules, tuple(questions(chance, kinds, rules)))

    def test_as_defined(self):
        counts = {}
        for chance, kinds, rules in setups(581, 60):
            other = random_rules(chance, kinds)
            asked = tuple(questions(chance, kinds, rules) + questions(chance, kinds, other))
            pairs = [(oracle.told(kinds, rules, question), oracle.told(kinds, other, question)) for question in asked]
            for pair in pairs:
                counts[pair] = counts.get(pair, 0) + 1
            self.gives(tuple(j for j, pair in enumerate(pairs) if pair == (True, False)), lost_by, kinds, rules, other, asked)
            self.gives(tuple(j for j, pair in enumerate(pairs) if pair == (False, True)), lost_by, kinds, other, rules, asked)
        self.assertEqual(4, len(counts))
        self.assertGreater(min(counts.values()), 20)

    def test_chances_do_not_matter(self):
        """[60]: by rules that are all ("never",) or ("own", p, q), for the same services."""
        for chance, kinds, _ in setups(582, 40):
            services = sorted(set().union(*map(names_in, kinds)))
            never = [service for service in services if chance.random() < 0.3]
            one, other = [tuple((service, ('never',) if service in never else ('own', chance.randint(1, 5), chance.randint(5, 12))) for service in services) for _ in range(2)]
            asked = tuple(questions(chance, kinds, one) + questions(chance, kinds, other))
            self.gives((), lost_by, kinds, one, other, asked)
            self.gives((), lost_by, kinds, other, one, asked)

    def test_no_questions(self):
        for thing in strange_values() + NO_ASKED:
            self.fails(QUESTIONS, lost_by, KINDS, RULES, NEVER, thing)
        self.fails(QUESTIONS, lost_by, (ALONE, FINE), RULES, NEVER, ASKED)
        for chance, _, _ in setups(583, 1):
            for _ in range(300):
                thing = spoiled(chance, ASKED, [(0, 0, 0)])
                good = (type(thing) is tuple and thing != () and all(type(one) is tuple and len(one) == 3 and all(type(part) is int for part in one) for one in thing))
                if not good:
                    self.fails(QUESTIONS, lost_by, KINDS, RULES, NEVER, thing)
                    self.fails(QUESTIONS, lost_apart, KINDS, RULES, APART, thing)


class LostApart(Case):

    def test_by_hand(self):
        asked = ((0, 0, 0, 1), (0, 0, 1, 1), (1, 0, 0, 0), (0, 1, 0, 1), (0, 0, 0, 0), (1, 2, 3, 4), (1, 2, 3, 9))
        self.gives((0, 2, 6), lost_apart, FOUR, BOTH, APART, asked)
        self.gives((0, 2, 6), lost_apart, FOUR, BOTH, APART[::-1], asked)
        # One collector.
        self.gives((), lost_apart, FOUR, BOTH, JOINED, asked)
        self.gives((), lost_apart, KINDS, RULES, APART, ASKED)
        self.gives((), lost_apart, FOUR, BOTH, APART, ((0, 0, 1, 1),))
        self.gives((0, 1), lost_apart, FOUR, BOTH, APART, ((0, 0, 0, 1), (BIG, 0, 0, 0)))
        # What is not told is not lost.
        self.gives((), lost_apart, FOUR, NEVER, APART, asked)
        self.assertEqual((0, 2, 6), lost_apart(kinds=FOUR, rules=BOTH, collectors=APART, questions=asked))

    def test_as_defined(self):
        counts = {}
        for chance, kinds, rules in chain(setups(59, 40), marked_setups(591, 40)):
            collectors = parted(chance, kinds)
            asked = tuple(some_questions(chance, kinds, rules, collectors) + [tuple(int(n == k) for n in range(len(kinds))) for k in range(len(kinds))])
            pairs = [(oracle.told(kinds, rules, question), told_apart(kinds, rules, collectors, question)) for question in asked]
            for pair in pairs:
                counts[pair] = counts.get(pair, 0) + 1
            wanted = tuple(j for j, pair in enumerate(pairs) if pair == (True, False))
            self.gives(wanted, lost_apart, kinds, rules, collectors, asked)
            self.assertEqual(wanted, tuple(j for j, question in enumerate(asked) if is_told(kinds, rules, question) and not is_told_apart(kinds, rules, collectors, question)))
            everyone = (tuple(sorted(set().union(*map(names_in, kinds)))),)
            self.gives((), lost_apart, kinds, rules, everyone, asked)
        self.assertEqual(3, len(counts))
        self.assertGreater(min(counts.values()), 8)

    def test_no_collectors_and_no_questions(self):
        for thing in strange_values() + NO_COLLECTORS:
            for asked in [ASKED, (), thing]:
                self.fails(COLLECTORS, lost_apart, KINDS, RULES, thing, asked)
        for thing in strange_values() + NO_ASKED:
            self.fails(QUESTIONS, lost_apart, KINDS, RULES, APART, thing)
        self.fails(QUESTIONS, lost_apart, (FINE, WRONG), RULES, APART, ASKED)


class Consequences(Case):
    """[60], of the cheapest rules."""

    def test_more_questions_and_more_options(self):
        for chance, kinds, rules in setups(60, 40, size=3, kinds=3):
            some = [random_rules(chance, kinds) for _ in range(2)]
            few = tuple((service, (rule,)) for service, rule in rules)
            more = tuple((service, tuple(sorted({rule, other[place][1]}, key=lambda one: one != rule)))
                         for place, (service, rule) in enumerate(rules) for other in [chance.choice(some)])
            crowd = tuple(chance.randint(0, 9) for _ in kinds)
            asked = tuple(questions(chance, kinds, rules, 2)[:4])
            for count in range(1, len(asked) + 1):
                one, other = cheapest(kinds, few, crowd, asked[:count]), cheapest(kinds, more, crowd, asked[:count])
                if one is not None:
                    self.assertIsNotNone(other)
                    self.assertLessEqual(other[0][0] * one[0][1], one[0][0] * other[0][1])
                if count > 1:
                    before = cheapest(kinds, more, crowd, asked[:count - 1])
                    if other is not None:
                        self.assertIsNotNone(before)
                        self.assertLessEqual(before[0][0] * other[0][1], other[0][0] * before[0][1])
