"""What several checkers of papers ask for."""

from thinspans.asking import first_untold
from thinspans.chances import columns_of, fractions_for, often_of
from thinspans.crowds import is_crowd, is_weights
from thinspans.errors import InvalidPaper
from thinspans.fractions import total_of
from thinspans.kinds import is_fraction


def is_form(thing, word, many):
    """Whether any value is a tuple of so many that begins with the word."""
    return isinstance(thing, tuple) and len(thing) == many and thing[0] == word


def are_weighted(thing):
    """Whether it is a tuple of pairs (any value, fraction)."""
    if not isinstance(thing, tuple):
        return False
    return all([isinstance(pair, tuple) and len(pair) == 2 and is_fraction(pair[1]) for pair in thing])


def check_telling(sights, table, question, weights):
    """Raises the error of any value that is no weights of the sights which tell the question."""
    if not is_weights(sights, weights):
        raise InvalidPaper("weights", -1)
    check_sums(table, fractions_for(sights, weights), question, "kind")


def check_sums(table, along, question, word):
    """Raises the error, with this word, of the first kind whose integer of the question the weights do not tell."""
    wrong = first_untold(table, along, question)
    if wrong is not None:
        raise InvalidPaper(word, wrong)


def check_crowds(kinds, table, question, thing, words):
    """Raises the error of a thing whose elements 1 and 2 are no crowds, not alike, or have the same totals.

    words: those of the first and of the last of these errors.
    """
    _, one, other = thing
    for place, crowd in ((1, one), (2, other)):
        if not is_crowd(kinds, crowd):
            raise InvalidPaper(words[0], place)
    columns = columns_of(table)
    for n, (often, often_there) in enumerate(zip(often_of(columns, one), often_of(columns, other))):
        if often != often_there:
            raise InvalidPaper("sight", n)
    if total_of(question, one) == total_of(question, other):
        raise InvalidPaper(words[1], -1)
