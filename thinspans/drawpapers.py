"""Draws by which a trace has a given sight."""

from thinspans.fractions import ONE, ZERO, made
from thinspans.keeping import draw_ranges, plains_of, span_chances
from thinspans.kinds import is_sight
from thinspans.outcomes import as_sights, closed, tree_outcomes
from thinspans.rules import rule_of
from thinspans.shapes import placed_subtrees


def draws_for(tree, rules, sight):
    """Any pair (draw, pairs) by which the trace has this sight, None if there is none."""
    # What is no sight by its shape could still be equal to one, with True for a mark.
    if is_sight(sight):
        for draw, _ in draw_ranges(rules):
            chances = span_chances(tree, rules, draw)
            if can_give(tree, chances, sight):
                return draw, own_draws(tree, rules, kept_to_give(tree, chances, sight))
    return None


def can_give(tree, chances, sight):
    """Whether the sight is possible by these chances of the spans, as tree_outcomes takes them."""
    return sight in [found for found, _ in as_sights(closed(tree_outcomes(tree, chances)[0], "top"))]


def kept_to_give(tree, chances, sight):
    """The paths of the spans that are kept on any one way to the sight, which is possible."""
    settled = list(chances)
    kept = []
    for k, (path, _) in enumerate(placed_subtrees(tree)):
        # If this span can stand in the sight, one of its service and mark stands there on a possible way,
        # too, with its caller or without: so it has the same chance, which is above 0.
        settled[k] = (ONE, ONE)
        if can_give(tree, settled, sight):
            kept.append(path)
        else:
            settled[k] = (ZERO, ZERO)
    return kept


def own_draws(tree, rules, kept):
    """The pair of draws of each span by which just these are kept, the chance of that being above 0."""
    return tuple([pair_of_draws(rule_of(rules, here[0]), path in kept) for path, here in placed_subtrees(tree)])


def pair_of_draws(rule, stays):
    draws = [ZERO if stays else draw_of_none(plain) for plain in plains_of(rule)]
    return (draws[0], draws[-1])


def draw_of_none(plain):
    """The least draw for which an "own" does not say that its span is kept; its chance is below 1."""
    return made(plain[1], plain[2]) if plain[0] == "own" else ZERO
