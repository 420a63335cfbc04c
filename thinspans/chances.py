"""The table of the chances that kinds have of sights, and fractions for sights."""

from thinspans.fractions import ZERO, dot, whole_fractions
from thinspans.ordering import ascending
from thinspans.sighting import sights_of


def chance_table(kinds, rules):
    """The pair of the set of the sights and, for each kind, the list of its chances of them."""
    return table_of([seen_of(kind, rules) for kind in kinds])


def table_of(seen):
    """The set of what is seen and, for each kind, its chances; seen has its ascending pairs (thing, chance)."""
    things = tuple(ascending([thing for pairs in seen for thing, _ in pairs]))
    return things, [fractions_for(things, pairs) for pairs in seen]


def seen_of(kind, rules):
    """The pairs (sight, chance) of a kind when it is seen."""
    return [(sight, chance) for sight, chance in sights_of(kind, rules) if sight != ()]


def fractions_for(sights, pairs):
    """The list of the fractions of the sights; the pairs (sight, fraction) are ascending, others are 0."""
    fractions = []
    at = 0
    for sight in sights:
        if at < len(pairs) and pairs[at][0] == sight:
            fractions.append(pairs[at][1])
            at += 1
        else:
            fractions.append(ZERO)
    return fractions


def nonzero_pairs(sights, fractions):
    """The tuple of the pairs (sight, fraction) whose fraction is not 0."""
    return tuple([(sight, fraction) for sight, fraction in zip(sights, fractions) if fraction != ZERO])


def columns_of(table):
    """For each sight the list of its chances by the kinds."""
    return [[row[at] for row in table] for at in range(len(table[0]))]


def often_of(columns, crowd):
    """For each column of the table how often its sight is seen of the crowd on the average."""
    many = whole_fractions(crowd)
    return [dot(many, column) for column in columns]
