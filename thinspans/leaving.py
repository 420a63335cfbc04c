"""What is left of a sight if some of its spans go."""

from thinspans.errors import NotUsable
from thinspans.fractions import ONE, ZERO, made
from thinspans.kinds import is_sight
from thinspans.outcomes import as_sights, closed, joined, tree_outcomes
from thinspans.shapes import subtrees_of


def left_of(sight, services):
    """The sight that is left if of its spans only those of these services are kept."""
    check_sight(sight)
    stays = [(service, ONE) for service in services]
    return chances_left(sight, stays, ZERO)[0][0]


def thinned(sight, service, p, q):
    """The pairs (sight, chance) of what is left if each span of this service stays with the chance p / q."""
    check_sight(sight)
    return tuple(chances_left(sight, [(service, made(p, q))], ONE))


def check_sight(thing):
    if not is_sight(thing):
        raise NotUsable("sight", -1)


def chances_left(sight, stays, others):
    """The pairs (sight, chance) of what is left.

    stays: pairs (service, chance that its spans stay); others: the chance for all other services.
    """
    return as_sights(joined([piece_outcomes(piece, stays, others) for piece in sight]))


def piece_outcomes(piece, stays, others):
    word, held = piece
    trees = (held,) if word == "top" else held
    parts = [tree_outcomes(tree, stay_chances(tree, stays, others))[0] for tree in trees]
    return closed(joined(parts), word)


def stay_chances(tree, stays, others):
    """For each span of the tree its chance to stay, twice: it does not hang on its caller."""
    chances = [chance_to_stay(here[0], stays, others) for here in subtrees_of(tree)]
    return [(chance, chance) for chance in chances]


def chance_to_stay(service, stays, others):
    for name, chance in stays:
        if name == service:
            return chance
    return others
