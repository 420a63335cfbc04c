"""[49], with [8] and the rows of [47]."""

from fractions import Fraction
from math import gcd

from tests import oracle
from tests.support import (
    ALONE, BIG, KINDS, NO_QUESTIONS, RULES, WRONG, Case, questions, setups, spoiled, strange_values)
from thinspans.asking import is_told, weights_for
from thinspans.errors import InvalidPaper, NotUsable
from thinspans.kinds import is_sight
from thinspans.spreadchecker import lets_spread
from thinspans.spreading import least_weights, spread

QUESTION, CROWD = NotUsable('question', -1), NotUsable('crowd', -1)
ONLY, LOST, FULL = (('top', ALONE),), (('lost', (('pay', 1, ()),)),), (('top', WRONG),)
EVEN, ODD = ((LOST, (1, 1)), (FULL, (1, 1))), ((LOST, (2, 1)),)
MANY = ((0, 1), (0, 1), (1, 1))
ONES, ASKED = (1, 1, 1), (0, 0, 1)


def invalid(word, at=-1):
    return InvalidPaper(word, at)


def is_pair(thing):
    return type(thing) is tuple and len(thing) == 2


def is_exact(thing):
    return (is_pair(thing) and all(type(part) is int for part in thing) and thing[1] > 0
            and gcd(*thing) == 1)


def verdict(kinds, rules, question, crowd, thing):
    """What lets_spread must say of the paper, by the words of [49]: (word, at), or the spread."""
    if not is_pair(thing) or not all(type(part) is tuple for part in thing):
        return 'shape', -1
    weights, multipliers = thing
    if not all(is_pair(pair) and is_exact(pair[1]) for pair in weights) or not all(map(is_exact, multipliers)):
        return 'shape', -1
    sights = oracle.seen_sights(kinds, rules)
    known = [sight for sight, _ in weights]
    if (not all(is_sight(sight) and sight in sights for sight in known) or any(weight == (0, 1) for _, weight in weights)
            or sorted(set(known)) != known):
        return 'weights', -1
    for k, told in enumerate(oracle.weight_sums(kinds, rules, weights)):
        if told != question[k]:
            return 'tells', k
    if len(multipliers) != len(kinds):
        return 'many', -1
    rows = oracle.chance_rows(kinds, rules)
    for n, sight in enumerate(sights):
        weight = Fraction(*dict(weights).get(sight, (0, 1)))
        often = sum(number * row[n] for number, row in zip(crowd, rows))
        if weight * often != sum(Fraction(*part) * row[n] for part, row in zip(multipliers, rows)):
            return 'sight', n
    return oracle.pair(oracle.spread_of(kinds, rules, weights, crowd))


class LetsSpread(Case):

    def says(self, wanted, *args):
        if isinstance(wanted[0], str):
            self.fails(invalid(*wanted), lets_spread, *args)
        else:
            self.gives(wanted, lets_spread, *args)

    def bad(self, word, at, thing, question=ASKED, crowd=ONES):
        self.assertEqual((word, at), verdict(KINDS, RULES, question, crowd, thing))
        self.fails(invalid(word, at), lets_spread, KINDS, RULES, question, crowd, thing)

    def test_example(self):
        self.gives((0, 1), lets_spread, KINDS, RULES, ASKED, ONES, (EVEN, MANY))
        self.fails(invalid('sight', 2), lets_spread, KINDS, RULES, ASKED, ONES, (ODD, ((0, 1), (0, 1), (2, 1))))

    def test_accepted(self):
        # The multipliers of kinds that look alike may be moved from one to the other.
        self.gives((5, 1), lets_spread, KINDS, RULES, (1, 1, 0), (2, 3, 9), (((ONLY, (2, 1)),), ((10, 1), (0, 1), (0, 1))))
        self.gives((5, 1), lets_spread, KINDS, RULES, (1, 1, 0), (2, 3, 9), (((ONLY, (2, 1)),), ((-7, 3), (37, 3), (0, 1))))
        self.gives((0, 1), lets_spread, KINDS, RULES, (0, 0, 0), ONES, ((), ((1, 1), (-1, 1), (0, 1))))
        self.gives((BIG, 1), lets_spread, KINDS, RULES, (1, 1, 0), (BIG, 0, 9), (((ONLY, (2, 1)),), ((BIG, 1), (BIG, 1), (0, 1))))
        never = (('front', ('never',)), ('pay', ('caller',)))
        self.gives((0, 1), lets_spread, KINDS, never, (0, 0, 0), ONES, ((), ((9, 1), (1, 7), (0, 1))))

    def test_crowds_with_zeros(self):
        # No trace of the crowd has LOST or FULL: any weights that tell it, and multipliers of 0.
        for weights in (EVEN, ODD, ((LOST, (7, 3)), (FULL, (-1, 3)))):
            self.gives((0, 1), lets_spread, KINDS, RULES, ASKED, (3, 9, 0), (weights, ((0, 1),) * 3))
            self.bad('sight', 0, (weights, ((0, 1), (0, 1), (1, 1))), ASKED, (3, 9, 0))
            self.bad('sight', 1, (weights, ((5, 2), (0, 1), (0, 1))), ASKED, (3, 9, 0))
        self.gives((0, 1), lets_spread, KINDS, RULES, ASKED, (0, 0, 0), (ODD, ((1, 1), (-1, 1), (0, 1))))

    def test_shape(self):
        for thing in strange_values() + [
                0, (), (EVEN,), (EVEN, MANY, ()), [EVEN, MANY], (list(EVEN), MANY), (EVEN, list(MANY)), (EVEN, 0), (0, MANY),
                (EVEN[0], MANY), (EVEN, MANY[0]), (EVEN + (None,), MANY), (EVEN, MANY + (None,)), (EVEN, MANY[:2] + ((2, 2),)),
                (EVEN, MANY[:2] + ((1, -1),)), (EVEN, MANY[:2] + ((1, 0),)), (EVEN, MANY[:2] + ((1, True),)),
                (EVEN, MANY[:2] + ((False, 1),)), (EVEN, MANY[:2] + ([1, 1],)), (EVEN, MANY[:2] + ((1, 1, 1),)),
                (((LOST, (2, 4)),), MANY), (((LOST, (True, 1)),), MANY), (((LOST, [2, 1]),), MANY), (((LOST, 2),), MANY),
                ((LOST, (1, 1)), MANY), ([(LOST, (2, 1))], MANY), (([LOST, (2, 1)],), MANY), (((LOST, (2, 1), 0),), MANY),
                (((LOST,),), MANY), (MANY, EVEN), ('', ()),
                # Ahead of all others: no sights, no weights, too many multipliers.
                (((None, (1, 1)), (LOST, (2, 4))), ()), (ODD + ODD, MANY * 2 + ((0, 2),)), (((FULL, (0, 2)),), ())]:
            self.bad('shape', -1, thing)

    def test_weights(self):
        for weights in [((None, (1, 1)),), ((0, (1, 1)),), (((), (1, 1)),), EVEN[::-1], ODD + ODD, ((LOST, (0, 1)),),
                        EVEN + ((ONLY, (1, 1)),), ((list(LOST), (2, 1)),), (((('top', ('front', False, ())),), (2, 1)),),
                        (((('lost', (('pay', True, ()),)),), (2, 1)),), (((('top', ('back', 0, ())),), (2, 1)),),
                        (((('top', KINDS[1]),), (2, 1)),), (([LOST], (1, 1)),), (('lost', (1, 1)),)]:
            self.bad('weights', -1, (weights, MANY))
            # Ahead of what they tell and of the multipliers.
            self.bad('weights', -1, (weights, ()), (1, 0, 0))
        # By the rules of another time they would be weights.
        others = (('front', ('own', 1, 2)), ('pay', ('never',)))
        self.fails(invalid('weights'), lets_spread, KINDS, others, ASKED, ONES, (EVEN, MANY))

    def test_tells(self):
        for question, k in [((1, 0, 1), 0), ((0, 1, 1), 1), ((0, 0, 2), 2), ((9, 9, 9), 0), ((0, -1, 4), 1), ((0, 0, -BIG), 2)]:
            self.bad('tells', k, (EVEN, MANY), question)
            self.bad('tells', k, (EVEN, ()), question)
        self.bad('tells', 2, ((), MANY))
        self.bad('tells', 2, (((FULL, (1, 2)),), ((0, 1), (0, 1), (1, 2))))
        # A question that is not told gets this error, too: never NotTold.
        self.bad('tells', 0, ((), MANY), (1, 0, 0))
        self.bad('tells', 1, (((ONLY, (2, 1)),), MANY), (1, 0, 0))

    def test_many(self):
        for multipliers in ((), MANY[:2], MANY + MANY[:1], MANY * 2, ((5, 7),)):
            self.bad('many', -1, (EVEN, multipliers))
            self.bad('many', -1, (ODD, multipliers))

    def test_sight(self):
        # The sights are LOST, ONLY, FULL.
        self.assertEqual(sorted([LOST, ONLY, FULL]), [LOST, ONLY, FULL])
        self.bad('sight', 0, (EVEN, ((0, 1), (0, 1), (0, 1))))
        self.bad('sight', 0, (EVEN, ((1, 1), (0, 1), (2, 1))))
        self.bad('sight', 1, (EVEN, ((1, 1), (0, 1), (1, 1))))
        self.bad('sight', 2, (ODD, ((0, 1), (0, 1), (2, 1))))
        self.bad('sight', 0, (ODD, ((0, 1), (0, 1), (0, 1))))
        # The paper of another crowd.
        self.bad('sight', 0, (EVEN, MANY), ASKED, (1, 1, 2))
        self.gives((0, 1), lets_spread, KINDS, RULES, ASKED, (7, 0, 1), (EVEN, MANY))
        self.bad('sight', 1, (((ONLY, (2, 1)),), ((2, 1), (2, 1), (0, 1))), (1, 1, 0), (2, 3, 0))

    def test_papers_of_least_weights(self):
        told = 0
        for chance, kinds, rules in setups(49, 50, size=4):
            for question in questions(chance, kinds, rules, 2):
                crowd = tuple(chance.choice([0, 1, 3, 99]) for _ in kinds)
                if is_told(kinds, rules, question):
                    told += 1
                    paper = least_weights(kinds, rules, question, crowd)
                    self.gives(spread(kinds, rules, paper[0], crowd), lets_spread, kinds, rules, question, crowd, paper)
                    # The paper for another crowd, and other weights that tell the question.
                    other = tuple(chance.choice([0, 1, 3, 99]) for _ in kinds)
                    any_weights = weights_for(kinds, rules, question)
                    for one, thing in ((other, paper), (crowd, (any_weights, paper[1]))):
                        self.says(verdict(kinds, rules, question, one, thing), kinds, rules, question, one, thing)
        self.assertGreater(told, 60)

    def test_spoiled_papers(self):
        counts = {}
        for seed in range(40):
            for chance, kinds, rules in setups(4900 + seed, 1, size=3, kinds=3):
                for question in questions(chance, kinds, rules, 2):
                    if not is_told(kinds, rules, question):
                        continue
                    crowd = tuple(chance.choice([0, 1, 3]) for _ in kinds)
                    paper = least_weights(kinds, rules, question, crowd)
                    for _ in range(25):
                        thing = spoiled(chance, paper, [(1, 1), (-1, 2), (2, 2), (0, 1), ('x', (1, 1)), paper[0], paper[1]])
                        wanted = verdict(kinds, rules, question, crowd, thing)
                        counts[wanted[0] if isinstance(wanted[0], str) else ''] = 1
                        self.says(wanted, kinds, rules, question, crowd, thing)
        self.assertEqual(['', 'many', 'shape', 'sight', 'tells', 'weights'], sorted(counts))

    def test_not_usable(self):
        for thing in strange_values() + NO_QUESTIONS:
            self.fails(QUESTION, lets_spread, KINDS, RULES, thing, ONES, (EVEN, MANY))
            self.fails(QUESTION, lets_spread, KINDS, RULES, thing, thing, None)
        for thing in strange_values() + NO_QUESTIONS + [(1, 2, -1), (-BIG, 0, 0)]:
            self.fails(CROWD, lets_spread, KINDS, RULES, ASKED, thing, (EVEN, MANY))
            self.fails(CROWD, lets_spread, KINDS, RULES, (1, 0, 0), thing, thing)
