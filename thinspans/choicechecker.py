"""The checker of papers about the cheapest rules."""

from thinspans.asking import first_untold
from thinspans.blindness import are_alike
from thinspans.chances import chance_table, fractions_for
from thinspans.choosing import check_options, check_questions, cheaper_choices, cost_of, is_choice, rules_by
from thinspans.crowds import check_crowd, is_crowd, is_weights
from thinspans.errors import InvalidPaper
from thinspans.fractions import total_of
from thinspans.kinds import is_number


def lets_choice(kinds, options, crowd, questions, thing):
    """Accepts any value as thing; returns the cost of its choice."""
    check_options(kinds, options)
    check_crowd(kinds, crowd)
    check_questions(kinds, questions)
    if not has_paper_shape(thing):
        raise InvalidPaper("shape", -1)
    choice, weights, bars = thing
    if not is_choice(options, choice):
        raise InvalidPaper("choice", -1)
    check_weighings(kinds, rules_by(options, choice), questions, weights)
    cost = cost_of(kinds, rules_by(options, choice), crowd)
    cheaper = cheaper_choices(kinds, options, crowd, cost)
    if len(bars) != len(cheaper):
        raise InvalidPaper("many", 2)
    for n, bar in enumerate(bars):
        check_bar(kinds, rules_by(options, cheaper[n]), questions, n, bar)
    return cost


def has_paper_shape(thing):
    if not isinstance(thing, tuple) or len(thing) != 3:
        return False
    return all([isinstance(part, tuple) for part in thing])


def check_weighings(kinds, rules, questions, weighings):
    """Raises the error of the first question without weights that tell it."""
    if len(weighings) != len(questions):
        raise InvalidPaper("many", 1)
    sights, table = chance_table(kinds, rules)
    for j, weights in enumerate(weighings):
        if not is_weights(sights, weights):
            raise InvalidPaper("weights", j)
        if first_untold(table, fractions_for(sights, weights), questions[j]) is not None:
            raise InvalidPaper("weights", j)


def check_bar(kinds, rules, questions, n, bar):
    """Raises the error of bar n if it does not show that a question is not told by the rules."""
    if not is_bar(kinds, questions, bar):
        raise InvalidPaper("bar", n)
    j, one, other = bar
    if not are_alike(kinds, rules, one, other):
        raise InvalidPaper("alike", n)
    if total_of(questions[j], one) == total_of(questions[j], other):
        raise InvalidPaper("total", n)


def is_bar(kinds, questions, thing):
    """Whether it is a triple of the index of a question and two crowds."""
    if not isinstance(thing, tuple) or len(thing) != 3:
        return False
    j, one, other = thing
    return is_number(j) and j < len(questions) and is_crowd(kinds, one) and is_crowd(kinds, other)
