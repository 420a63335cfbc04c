"""Which differences are blind, and what is told all the same."""

from thinspans.asking import along_for
from thinspans.chances import chance_table, columns_of
from thinspans.crowds import check_crowd, check_difference, check_question
from thinspans.equations import null_base, rank_of
from thinspans.fractions import ZERO, dot, whole_fractions


def is_blind(kinds, rules, difference):
    """Whether the sum of its integers times the chances is 0 for each sight."""
    check_difference(kinds, difference)
    _, table = chance_table(kinds, rules)
    integers = whole_fractions(difference)
    return all([dot(integers, column) == ZERO for column in columns_of(table)])


def are_alike(kinds, rules, crowd, other):
    """Whether the difference of two crowds is blind."""
    check_crowd(kinds, crowd)
    check_crowd(kinds, other)
    return is_blind(kinds, rules, tuple([one - two for one, two in zip(crowd, other)]))


def how_many_told(kinds, rules):
    """The greatest number of told questions none of which is a sum of fractions of the others."""
    return rank_with(chance_table(kinds, rules)[1], ())


def rank_with(table, known):
    """The same, by the table of the chances, if the totals of known questions can be told, too."""
    rows = rows_with(table, known)
    return rank_of(rows, len(rows[0]))


def rows_with(table, known):
    """The rows of the table, each with the integers of the known questions behind it."""
    columns = [whole_fractions(question) for question in known]
    return [chances + [column[k] for column in columns] for k, chances in enumerate(table)]


def blind_base(kinds, rules):
    """Blind differences, as few as possible, of which each one is a sum of fractions."""
    _, table = chance_table(kinds, rules)
    return tuple(null_base(columns_of(table), len(kinds)))


def told_with(kinds, rules, question, *others):
    """Whether the question's total can be told if those of the others are known exactly."""
    check_question(kinds, question)
    for other in others:
        check_question(kinds, other)
    return is_told_with(chance_table(kinds, rules)[1], question, others)


def is_told_with(table, question, known):
    """The same, by the table of the chances, for values that are questions."""
    return along_for(rows_with(table, known), question) is not None
