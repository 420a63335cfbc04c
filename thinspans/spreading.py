"""The spread of weights in a crowd, and the weights of least spread."""

from thinspans.chances import chance_table, columns_of, fractions_for, nonzero_pairs
from thinspans.crowds import check_crowd, check_question, check_weights
from thinspans.equations import pivot_columns, solution
from thinspans.errors import NotTold
from thinspans.fractions import ZERO, dot, made, minus, over, sum_of, times


def spread(kinds, rules, weights, crowd):
    """The spread of the weights in the crowd."""
    sights, table = chance_table(kinds, rules)
    check_weights(sights, weights)
    check_crowd(kinds, crowd)
    along = fractions_for(sights, weights)
    return sum_of([times(made(number, 1), variance(chances, along)) for chances, number in zip(table, crowd)])


def variance(chances, weights):
    """The variance of the weight of what is seen of one trace."""
    mean = dot(chances, weights)
    return minus(dot(chances, [times(weight, weight) for weight in weights]), times(mean, mean))


def least_weights(kinds, rules, question, crowd):
    """The pair of weights of least spread among those that tell the question, and multipliers of them."""
    check_question(kinds, question)
    check_crowd(kinds, crowd)
    sights, table = chance_table(kinds, rules)
    columns = columns_of(table)
    often = [dot([made(number, 1) for number in crowd], column) for column in columns]
    idle = idle_places(table, often)
    found = solution(least_rows(columns, often, idle, question), len(kinds) + len(idle))
    if found is None:
        raise NotTold(question)
    multipliers = found[:len(kinds)]
    along = [over(dot(multipliers, column), some) if some != ZERO else ZERO for column, some in zip(columns, often)]
    for place, weight in zip(idle, found[len(kinds):]):
        along[place] = weight
    return nonzero_pairs(sights, along), tuple(multipliers)


def idle_places(table, often):
    """Places of sights that the crowd cannot have, as few as do for the weights of all of these."""
    places = [place for place, some in enumerate(often) if some == ZERO]
    return [places[k] for k in pivot_columns([[row[place] for place in places] for row in table], len(places))]


def least_rows(columns, often, idle, question):
    """The equations of the multipliers and of the weights of the idle sights.

    The other weights are put into them as [8] gives them: the sum of the multipliers
    times the chances of the sight, over how often it is seen.
    """
    busy = [(column, some) for column, some in zip(columns, often) if some != ZERO]
    rows = []
    for k, integer in enumerate(question):
        shares = [over(column[k], some) for column, some in busy]
        by_multiplier = [dot(shares, [column[j] for column, _ in busy]) for j in range(len(question))]
        rows.append(by_multiplier + [columns[place][k] for place in idle] + [made(integer, 1)])
    for place in idle:
        rows.append(columns[place] + [ZERO for _ in idle] + [ZERO])
    return rows
