"""Which questions are told by weights of at least 0, and by which ones."""

from thinspans.chances import chance_table, nonzero_pairs
from thinspans.crowds import check_question
from thinspans.fractions import made
from thinspans.simplex import nonnegative_solution


def is_fairly_told(kinds, rules, question):
    return fair_weights_for(kinds, rules, question) is not None


def fair_weights_for(kinds, rules, question):
    """Any weights of at least 0 that tell the question, None if there are none."""
    return weights_or_difference(kinds, rules, question)[0]


def weights_or_difference(kinds, rules, question):
    """The pair of fair weights that tell the question and None; if there are none, of None and an
    upward difference whose sum with the question is below 0."""
    check_question(kinds, question)
    sights, table = chance_table(kinds, rules)
    rows = [chances + [made(integer, 1)] for chances, integer in zip(table, question)]
    along, difference = nonnegative_solution(rows, len(sights))
    if along is None:
        return None, tuple(difference)
    return nonzero_pairs(sights, along), None
