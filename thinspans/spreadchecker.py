"""The checker of papers about the least spread."""

from thinspans.chances import chance_table, columns_of, fractions_for, often_of
from thinspans.crowds import check_crowd, check_question, is_weights
from thinspans.errors import InvalidPaper
from thinspans.fractions import dot, times
from thinspans.kinds import is_fraction
from thinspans.papers import are_weighted, check_sums
from thinspans.spreading import spread_along


def lets_spread(kinds, rules, question, crowd, thing):
    """Accepts any value as thing; returns the spread of its weights."""
    check_question(kinds, question)
    check_crowd(kinds, crowd)
    if not has_paper_shape(thing):
        raise InvalidPaper("shape", -1)
    weights, multipliers = thing
    sights, table = chance_table(kinds, rules)
    if not is_weights(sights, weights):
        raise InvalidPaper("weights", -1)
    along = fractions_for(sights, weights)
    check_sums(table, along, question, "tells")
    if len(multipliers) != len(kinds):
        raise InvalidPaper("many", -1)
    check_multipliers(table, along, crowd, multipliers)
    return spread_along(table, along, crowd)


def has_paper_shape(thing):
    if not isinstance(thing, tuple) or len(thing) != 2:
        return False
    weights, multipliers = thing
    return are_weighted(weights) and isinstance(multipliers, tuple) and all([is_fraction(part) for part in multipliers])


def check_multipliers(table, along, crowd, multipliers):
    """Raises the error of the first sight for which they are no multipliers of the weights in the crowd."""
    columns = columns_of(table)
    often = often_of(columns, crowd)
    for n, column in enumerate(columns):
        if times(along[n], often[n]) != dot(multipliers, column):
            raise InvalidPaper("sight", n)
