"""Which questions are told, and by which weights."""

from thinspans.chances import chance_table, fractions_for, nonzero_pairs
from thinspans.crowds import check_question, check_weights
from thinspans.equations import solution
from thinspans.fractions import dot, made


def is_told(kinds, rules, question):
    return weights_for(kinds, rules, question) is not None


def weights_for(kinds, rules, question):
    """Any weights that tell the question, None if there are none."""
    check_question(kinds, question)
    sights, table = chance_table(kinds, rules)
    rows = [chances + [made(integer, 1)] for chances, integer in zip(table, question)]
    found = solution(rows, len(sights))
    if found is None:
        return None
    return nonzero_pairs(sights, found)


def tells(kinds, rules, weights):
    """For each kind the sum of its chances of the sights times their weights."""
    sights, table = chance_table(kinds, rules)
    check_weights(sights, weights)
    along = fractions_for(sights, weights)
    return tuple([dot(chances, along) for chances in table])
