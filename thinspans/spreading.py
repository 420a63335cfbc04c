"""The spread of weights in a crowd, and the weights of least spread."""

from thinspans.chances import chance_table, columns_of, fractions_for, nonzero_pairs, often_of
from thinspans.crowds import check_crowd, check_question, check_weights
from thinspans.equations import pivot_columns, solution
from thinspans.errors import NotTold
from thinspans.fractions import ZERO, dot, made, minus, over, times, whole_fractions


def spread(kinds, rules, weights, crowd):
    """The spread of the weights in the crowd."""
    sights, table = chance_table(kinds, rules)
    check_weights(sights, weights)
    check_crowd(kinds, crowd)
    return spread_along(table, fractions_for(sights, weights), crowd)


def spread_along(table, along, crowd):
    """The spread in the crowd, the weights being those of the columns of the table."""
    return dot(whole_fractions(crowd), [variance(chances, along) for chances in table])


def variance(chances, along):
    """The variance of the weight of what is seen of one trace."""
    mean = dot(chances, along)
    return minus(dot(chances, [times(weight, weight) for weight in along]), times(mean, mean))


def least_weights(kinds, rules, question, crowd):
    """The pair of weights of least spread among those that tell the question, and multipliers of them."""
    check_question(kinds, question)
    check_crowd(kinds, crowd)
    sights, table = chance_table(kinds, rules)
    found = least_along(table, question, crowd)
    if found is None:
        raise NotTold(question)
    along, multipliers = found
    return nonzero_pairs(sights, along), tuple(multipliers)


def least_along(table, question, crowd):
    """As least_weights, the weights being those of the columns of the table; None if the question is not told."""
    columns = columns_of(table)
    often = often_of(columns, crowd)
    idle = idle_places(table, often)
    found = solution(least_rows(columns, often, idle, question), len(table) + len(idle))
    if found is None:
        return None
    multipliers = found[:len(table)]
    along = [over(dot(multipliers, column), some) if some != ZERO else ZERO for column, some in zip(columns, often)]
    for place, weight in zip(idle, found[len(table):]):
        along[place] = weight
    return along, multipliers


def idle_places(table, often):
    """Places of sights that the crowd cannot have, as few as do for the weights of all of these."""
    places = [place for place, some in enumerate(often) if some == ZERO]
    return [places[k] for k in pivot_columns([[row[place] for place in places] for row in table], len(places))]


def least_rows(columns, often, idle, question):
    """The equations of the multipliers and of the weights of the idle sights.

    The other weights are put into them as [8] gives them: the sum of the multipliers
    times the chances of the sight, over how often it is seen.
    """
    busy = [(column, some) for column, some in zip(columns, often) if some != ZERO]
    rows = []
    for k, integer in enumerate(question):
        shares = [over(column[k], some) for column, some in busy]
        by_multiplier = [dot(shares, [column[j] for column, _ in busy]) for j in range(len(question))]
        rows.append(by_multiplier + [columns[place][k] for place in idle] + [made(integer, 1)])
    for place in idle:
        rows.append(columns[place] + [ZERO for _ in idle] + [ZERO])
    return rows
