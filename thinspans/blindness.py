"""Which differences are blind, and what is told all the same."""

from thinspans.chances import chance_table, columns_of
from thinspans.crowds import check_crowd, check_difference, check_question
from thinspans.equations import null_base, rank_of, solution
from thinspans.fractions import ZERO, dot, made, whole_fractions


def is_blind(kinds, rules, difference):
    """Whether the sum of its integers times the chances is 0 for each sight."""
    check_difference(kinds, difference)
    _, table = chance_table(kinds, rules)
    integers = whole_fractions(difference)
    return all([dot(integers, column) == ZERO for column in columns_of(table)])


def are_alike(kinds, rules, crowd, other):
    """Whether the difference of two crowds is blind."""
    check_crowd(kinds, crowd)
    check_crowd(kinds, other)
    return is_blind(kinds, rules, tuple([one - two for one, two in zip(crowd, other)]))


def how_many_told(kinds, rules):
    """The greatest number of told questions none of which is a sum of fractions of the others."""
    sights, table = chance_table(kinds, rules)
    return rank_of(table, len(sights))


def blind_base(kinds, rules):
    """Blind differences, as few as possible, of which each one is a sum of fractions."""
    _, table = chance_table(kinds, rules)
    return tuple(null_base(columns_of(table), len(kinds)))


def told_with(kinds, rules, question, *others):
    """Whether the question's total can be told if those of the others are known exactly."""
    check_question(kinds, question)
    for other in others:
        check_question(kinds, other)
    _, table = chance_table(kinds, rules)
    known = [whole_fractions(other) for other in others]
    rows = [chances + [row[k] for row in known] + [made(question[k], 1)] for k, chances in enumerate(table)]
    return solution(rows, len(rows[0]) - 1) is not None
