"""Questions, differences, crowds and weights: whether any value is one of given kinds."""

from thinspans.errors import NotUsable
from thinspans.kinds import is_fraction, is_integer, is_number, is_sight
from thinspans.ordering import is_ascending


def is_question(kinds, thing):
    """Whether it has an integer for each kind; so have questions and differences."""
    return isinstance(thing, tuple) and len(thing) == len(kinds) and all([is_integer(part) for part in thing])


def is_crowd(kinds, thing):
    return is_question(kinds, thing) and all([is_number(part) for part in thing])


def is_weights(sights, thing):
    """Whether it is weights, the sights being all of the kinds and rules."""
    if not isinstance(thing, tuple) or not all([is_weight(sights, pair) for pair in thing]):
        return False
    return is_ascending([sight for sight, _ in thing])


def is_weight(sights, thing):
    if not isinstance(thing, tuple) or len(thing) != 2:
        return False
    sight, weight = thing
    return is_sight(sight) and sight in sights and is_fraction(weight) and weight != (0, 1)


def check_question(kinds, thing):
    if not is_question(kinds, thing):
        raise NotUsable("question", -1)


def check_difference(kinds, thing):
    if not is_question(kinds, thing):
        raise NotUsable("difference", -1)


def check_crowd(kinds, thing):
    if not is_crowd(kinds, thing):
        raise NotUsable("crowd", -1)


def check_weights(sights, thing):
    if not is_weights(sights, thing):
        raise NotUsable("weights", -1)
