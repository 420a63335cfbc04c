"""[56] and [57], with [7], [34], [35] and [54]; what follows, [9] (T5)."""

from fractions import Fraction

from tests import oracle
from tests.support import (
    ALONE, BIG, FINE, KINDS, NO_QUESTIONS, WRONG, Case, setups, spoiled, strange_values)
from tests.test_choosing import NO_ASKED, NO_OPTIONS, all_choices, best, by_choice, cost, random_options
from thinspans.asking import weights_for
from thinspans.blindness import blind_base
from thinspans.choicechecker import lets_choice
from thinspans.errors import InvalidPaper, NotUsable
from thinspans.kinds import is_fraction, is_sight

ONES = (1, 1, 1)
OPTIONS = (('front', (('own', 1, 2), ('never',))), ('pay', (('bad',), ('own', 1, 1))))
ONLY, LOST, FULL = (('top', ALONE),), (('lost', (('pay', 1, ()),)),), (('top', WRONG),)
ASKED = ((1, 1, 0),)
HALF = (((ONLY, (2, 1)),),)
BAR = (0, (1, 0, 0), (0, 0, 0))
PAPER = ((0, 0), HALF, (BAR, BAR))


def invalid(word, at=-1):
    return InvalidPaper(word, at)


def is_crowd_of(kinds, thing):
    return type(thing) is tuple and len(thing) == len(kinds) and all(type(part) is int and part >= 0 for part in thing)


def weighs(kinds, rules, question, thing):
    """Whether it is weights that tell the question."""
    if type(thing) is not tuple or not all(type(pair) is tuple and len(pair) == 2 for pair in thing):
        return False
    sights = oracle.seen_sights(kinds, rules)
    if not all(is_sight(sight) and sight in sights and is_fraction(part) and part != (0, 1) for sight, part in thing):
        return False
    known = [sight for sight, _ in thing]
    return sorted(set(known)) == known and oracle.weight_sums(kinds, rules, thing) == list(question)


def fault_of_bar(kinds, rules, questions, bar):
    """The word of the first fault of a bar, or None."""
    if (type(bar) is not tuple or len(bar) != 3 or type(bar[0]) is not int or not 0 <= bar[0] < len(questions)
            or not is_crowd_of(kinds, bar[1]) or not is_crowd_of(kinds, bar[2])):
        return 'bar'
    change = [one - other for one, other in zip(bar[1], bar[2])]
    columns = oracle.transposed(oracle.chance_rows(kinds, rules))
    if any(sum(part * entry for part, entry in zip(change, column)) for column in columns):
        return 'alike'
    if sum(integer * part for integer, part in zip(questions[bar[0]], change)) == 0:
        return 'total'
    return None


def verdict(kinds, options, crowd, questions, thing):
    """What lets_choice must say of the paper, by the words of [57]: (word, at), or the cost."""
    if type(thing) is not tuple or len(thing) != 3 or not all(type(part) is tuple for part in thing):
        return 'shape', -1
    choice, weights, bars = thing
    if not all(type(k) is int for k in choice) or choice not in all_choices(options):
        return 'choice', -1
    if len(weights) != len(questions):
        return 'many', 1
    for j, question in enumerate(questions):
        if not weighs(kinds, by_choice(options, choice), question, weights[j]):
            return 'weights', j
    least = cost(kinds, by_choice(options, choice), crowd)
    cheaper = [other for other in all_choices(options) if cost(kinds, by_choice(options, other), crowd) < least]
    if len(bars) != len(cheaper):
        return 'many', 2
    for n, bar in enumerate(bars):
        word = fault_of_bar(kinds, by_choice(options, cheaper[n]), questions, bar)
        if word is not None:
            return word, n
    return oracle.pair(least)


def paper_of(kinds, options, crowd, questions):
    """A choice paper, None if there is none."""
    found = best(kinds, options, crowd, questions)
    if found is None:
        return None
    least, choices = found
    weights = tuple(weights_for(kinds, by_choice(options, choices[-1]), question) for question in questions)
    bars = []
    for choice in all_choices(options):
        rules = by_choice(options, choice)
        if cost(kinds, rules, crowd) < Fraction(*least):
            j = next(j for j, question in enumerate(questions) if not oracle.told(kinds, rules, question))
            change = next(change for change in blind_base(kinds, rules)
                          if sum(part * integer for part, integer in zip(change, questions[j])))
            bars.append((j, tuple(max(part, 0) for part in change), tuple(max(-part, 0) for part in change)))
    return choices[-1], weights, tuple(bars)


class LetsChoice(Case):

    def says(self, wanted, *args):
        if isinstance(wanted[0], str):
            self.fails(invalid(*wanted), lets_choice, *args)
        else:
            self.gives(wanted, lets_choice, *args)

    def bad(self, word, at, thing, questions=ASKED, crowd=ONES, options=OPTIONS):
        self.assertEqual((word, at), verdict(KINDS, options, crowd, questions, thing))
        self.fails(invalid(word, at), lets_choice, KINDS, options, crowd, questions, thing)

    def test_example(self):
        self.gives((5, 2), lets_choice, KINDS, OPTIONS, ONES, ASKED, PAPER)

    def test_accepted(self):
        # Bars of any numbers, the same crowd on either side of other ones.
        for bar in [(0, (0, 0, 0), (1, 0, 0)), (0, (0, BIG, 0), (7, 0, 0)), (0, (0, 1, 5), (9, 9, 5))]:
            self.gives((5, 2), lets_choice, KINDS, OPTIONS, ONES, ASKED, ((0, 0), HALF, (bar, BAR)))
        # Nothing is cheaper than nothing.
        self.gives((0, 1), lets_choice, KINDS, OPTIONS, (0, 0, 0), ASKED, ((0, 0), HALF, ()))
        self.gives((1, 1), lets_choice, KINDS, OPTIONS, ONES, ((0, 0, 1), (0, 0, -5)),
                   ((1, 0), (((LOST, (1, 1)),), ((LOST, (-5, 1)),)), ()))
        self.gives((0, 1), lets_choice, (ALONE,), (('front', (('never',),)),), (BIG,), ((0,),), ((0,), ((),), ()))

    def test_shape(self):
        for thing in strange_values() + [
                0, (), PAPER[:2], PAPER + ((),), list(PAPER), ([0, 0], HALF, (BAR, BAR)), ((0, 0), list(HALF), (BAR, BAR)),
                ((0, 0), HALF, [BAR, BAR]), (0, HALF, (BAR, BAR)), ((0, 0), None, (BAR, BAR)), ((0, 0), HALF, 'ab'), ((), (), 0),
                ((9, 9), HALF, BAR[0])]:
            self.bad('shape', -1, thing)

    def test_choice(self):
        for choice in [(), (0,), (0, 0, 0), (0, 2), (2, 0), (-1, 0), (0, -1), (True, 0), (0, False), (None, 0), ((0, 0),), (0, '0'),
                       (BIG, 0)]:
            self.bad('choice', -1, (choice, HALF, (BAR, BAR)))
            # Ahead of the weights and of the bars.
            self.bad('choice', -1, (choice, (), ()))

    def test_many_weights(self):
        for weights in [(), HALF * 2, HALF[0], (None, None)]:
            if len(weights) != 1:
                self.bad('many', 1, ((0, 0), weights, (BAR, BAR)))
                self.bad('many', 1, ((0, 0), weights, ()))
        self.bad('many', 1, PAPER, ASKED * 2)

    def test_weights(self):
        good = HALF[0]
        for wrong in [0, None, (), [], list(good), good + good, ((ONLY, (4, 2)),), ((ONLY, (1, 1)),), ((ONLY, [2, 1]),),
                      ((ONLY, (2, True)),), (((), (1, 1)),), good + ((FULL, (1, 1)),), ((FULL, (1, 1)), (ONLY, (2, 1))), (ONLY, (2, 1)),
                      ((LOST, (0, 1)), (ONLY, (2, 1))), (((('top', ('front', False, ())),), (2, 1)),), ((ONLY, (2, 1), 0),),
                      (((('top', FINE),), (2, 1)),), ((None, (1, 1)),)]:
            self.bad('weights', 0, ((0, 0), (wrong,), (BAR, BAR)))
            self.bad('weights', 1, ((0, 0), (good, wrong), ()), ASKED * 2)
            self.bad('weights', 0, ((0, 0), (wrong, wrong), ()), ASKED * 2)
        # Weights that tell another question; a choice by which the question is not told.
        self.bad('weights', 1, ((0, 0), (good, good), (BAR, BAR)), ((1, 1, 0), (0, 0, 1)))
        self.bad('weights', 0, ((1, 0), HALF, ()))
        self.bad('weights', 0, ((0, 0), ((),), (BAR, BAR)), ((1, 0, 0),))

    def test_many_bars(self):
        for bars in [(), (BAR,), (BAR,) * 3, (BAR,) * 4, (None,), BAR]:
            self.bad('many', 2, ((0, 0), HALF, bars))
        # The two that are cheaper are (1, 0) and (1, 1); of the same cost is none but itself.
        self.bad('many', 2, ((1, 0), (((LOST, (1, 1)),),), (BAR,)), ((0, 0, 1),))
        self.bad('many', 2, PAPER, ASKED, (0, 0, 0))

    def test_bars(self):
        for wrong in [0, None, (), BAR[:2], BAR + (0,), list(BAR), (1, (1, 0, 0), (0, 0, 0)), (-1, (1, 0, 0), (0, 0, 0)),
                      (False, (1, 0, 0), (0, 0, 0)), (0, (1, 0), (0, 0, 0)), (0, (1, 0, 0), (0, 0, 0, 0)), (0, [1, 0, 0], (0, 0, 0)),
                      (0, (True, 0, 0), (0, 0, 0)), (0, (1, 0, 0), (0, -1, 0)), (0, (1, 0, 0), None), (None, (1, 0, 0), (0, 0, 0)),
                      (0, (1, 0, 0), (0, 0, (0, 1))), (BIG, (1, 0, 0), (0, 0, 0))]:
            self.bad('bar', 0, ((0, 0), HALF, (wrong, wrong)))
            self.bad('bar', 1, ((0, 0), HALF, (BAR, wrong)))
            # All checks of one bar come ahead of those of the next one.
            self.bad('alike', 0, ((0, 0), HALF, ((0, (0, 0, 1), (0, 0, 0)), wrong)))
            self.bad('total', 0, ((0, 0), HALF, ((0, (1, 1, 1), (1, 1, 1)), wrong)))

    def test_alike(self):
        # Without front, PAY of WRONG is seen by (1, 0), and that of FINE, too, by (1, 1).
        self.bad('alike', 0, ((0, 0), HALF, ((0, (0, 0, 1), (1, 0, 0)), BAR)))
        self.bad('alike', 1, ((0, 0), HALF, (BAR, (0, (0, 1, 0), (0, 0, 0)))))
        self.gives((5, 2), lets_choice, KINDS, OPTIONS, ONES, ASKED, ((0, 0), HALF, ((0, (0, 1, 0), (0, 0, 0)), BAR)))
        # In another order.
        ones = (0, (0, 1, 0), (0, 0, 0))
        self.gives((5, 2), lets_choice, KINDS, OPTIONS, ONES, ASKED, ((0, 0), HALF, (ones, BAR)))
        self.bad('alike', 1, ((0, 0), HALF, (BAR, ones)))
        # Ahead of the total.
        self.bad('alike', 0, ((0, 0), HALF, ((0, (1, 0, 1), (0, 1, 0)), BAR)))

    def test_total(self):
        self.bad('total', 0, ((0, 0), HALF, ((0, (1, 0, 0), (0, 1, 0)), BAR)))
        self.bad('total', 1, ((0, 0), HALF, (BAR, (0, (1, 2, 3), (1, 2, 3)))))
        # The question of the bar is the one that counts.
        two = ((0, 0, 1), (1, 1, 0))
        weights = (((LOST, (1, 1)), (FULL, (1, 1))), HALF[0])
        self.gives((5, 2), lets_choice, KINDS, OPTIONS, ONES, two, ((0, 0), weights, ((1, *BAR[1:]),) * 2))
        self.bad('total', 0, ((0, 0), weights, ((0, *BAR[1:]),) * 2), two)
        self.bad('bar', 1, ((0, 0), weights, ((1, *BAR[1:]), (2, *BAR[1:]))), two)

    def test_papers(self):
        """Those that are made by the words of [56], as they are and spoiled."""
        counts = {}
        for chance, kinds, _ in setups(57, 60, size=3, kinds=3):
            options = random_options(chance, kinds, 8)
            crowd = tuple(chance.choice([0, 1, 2, 99]) for _ in kinds)
            questions = tuple(tuple(chance.choice([0, 0, 1, 2, -9]) for _ in kinds) for _ in range(chance.randint(1, 2)))
            paper = paper_of(kinds, options, crowd, questions)
            if paper is None:
                # Without weights there is no paper.
                continue
            self.gives(best(kinds, options, crowd, questions)[0], lets_choice, kinds, options, crowd, questions, paper)
            for _ in range(12 if not paper[2] else 60):
                thing = spoiled(chance, paper, [paper[0], (0, (1,) * len(kinds), (0,) * len(kinds)), (1, 2)])
                wanted = verdict(kinds, options, crowd, questions, thing)
                counts[wanted[0] if isinstance(wanted[0], str) else ''] = 1
                self.says(wanted, kinds, options, crowd, questions, thing)
        self.assertEqual(['', 'alike', 'bar', 'choice', 'many', 'shape', 'total', 'weights'], sorted(counts))

    def test_papers_of_others(self):
        for chance, kinds, _ in setups(571, 40, size=3, kinds=3):
            options = random_options(chance, kinds, 6)
            crowds = [tuple(chance.choice([0, 1, 5]) for _ in kinds) for _ in range(2)]
            asked = [(tuple(chance.choice([0, 1, 2]) for _ in kinds),) for _ in range(2)]
            paper = paper_of(kinds, options, crowds[0], asked[0])
            if paper is not None:
                for crowd in crowds:
                    for questions in asked:
                        self.says(verdict(kinds, options, crowd, questions, paper), kinds, options, crowd, questions, paper)

    def test_not_usable(self):
        for thing in strange_values() + NO_OPTIONS:
            self.fails(NotUsable('options', -1), lets_choice, KINDS, thing, ONES, ASKED, PAPER)
            self.fails(NotUsable('options', -1), lets_choice, KINDS, thing, thing, thing, thing)
        for thing in strange_values() + NO_QUESTIONS + [(1, 2, -1)]:
            self.fails(NotUsable('crowd', -1), lets_choice, KINDS, OPTIONS, thing, ASKED, PAPER)
            self.fails(NotUsable('crowd', -1), lets_choice, KINDS, OPTIONS, thing, (), None)
        for thing in strange_values() + NO_ASKED:
            self.fails(NotUsable('questions', -1), lets_choice, KINDS, OPTIONS, ONES, thing, PAPER)
            self.fails(NotUsable('questions', -1), lets_choice, KINDS, OPTIONS, ONES, thing, thing)
