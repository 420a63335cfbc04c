"""Which questions are told, and by which weights."""

from thinspans.chances import chance_table, fractions_for, nonzero_pairs
from thinspans.crowds import check_question, check_weights
from thinspans.equations import solution
from thinspans.fractions import dot, made


def is_told(kinds, rules, question):
    return weights_for(kinds, rules, question) is not None


def weights_for(kinds, rules, question):
    """Any weights that tell the question, None if there are none."""
    check_question(kinds, question)
    sights, table = chance_table(kinds, rules)
    found = along_for(table, question)
    if found is None:
        return None
    return nonzero_pairs(sights, found)


def along_for(table, question):
    """Any fractions, one for each column of the table, that tell the question; None if there are none."""
    rows = [chances + [made(integer, 1)] for chances, integer in zip(table, question)]
    return solution(rows, len(table[0]))


def untold_places(kinds, rules, questions):
    """The list of the indexes of the questions that are not told."""
    _, table = chance_table(kinds, rules)
    return [j for j, question in enumerate(questions) if along_for(table, question) is None]


def tells(kinds, rules, weights):
    """For each kind the sum of its chances of the sights times their weights."""
    sights, table = chance_table(kinds, rules)
    check_weights(sights, weights)
    return tuple(told_by(table, fractions_for(sights, weights)))


def told_by(table, along):
    """For each row of the table the sum of its chances times the weights of the columns."""
    return [dot(chances, along) for chances in table]


def first_untold(table, along, question):
    """The first kind whose integer of the question the weights do not tell, or None."""
    for k, told in enumerate(told_by(table, along)):
        if told != (question[k], 1):
            return k
    return None
