"""The checker of draws that lead to a sight."""

from thinspans.errors import InvalidPaper
from thinspans.fractions import ONE, ZERO, is_less
from thinspans.kinds import is_fraction, is_sight
from thinspans.sighting import kept_by, sight_of
from thinspans.trees import size_of


def lets_draws(tree, rules, sight, thing):
    """Accepts any values as sight and as thing; returns the set of the kept paths."""
    if not has_paper_shape(thing):
        raise InvalidPaper("shape", -1)
    draw, pairs = thing
    if len(pairs) != size_of(tree):
        raise InvalidPaper("many", -1)
    if not is_draw(draw):
        raise InvalidPaper("draw", -1)
    for k, pair in enumerate(pairs):
        if not all([is_draw(own) for own in pair]):
            raise InvalidPaper("own", k)
    kept = kept_by(tree, rules, draw, pairs)
    # What is no sight by its shape could still be equal to one, with True for a mark.
    if not is_sight(sight) or sight != sight_of(tree, kept):
        raise InvalidPaper("sight", -1)
    return kept


def has_paper_shape(thing):
    if not isinstance(thing, tuple) or len(thing) != 2:
        return False
    draw, pairs = thing
    return is_fraction(draw) and isinstance(pairs, tuple) and all([is_pair(pair) for pair in pairs])


def is_pair(thing):
    """Whether it is a pair of fractions."""
    return isinstance(thing, tuple) and len(thing) == 2 and all([is_fraction(part) for part in thing])


def is_draw(fraction):
    return not is_less(fraction, ZERO) and is_less(fraction, ONE)
