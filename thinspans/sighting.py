"""The sights of a trace: which ones it may have, and with which chances."""

from thinspans.errors import NotUsable
from thinspans.fractions import ONE, ZERO, is_less, times
from thinspans.keeping import draw_ranges, has_bad, plain_chance, plains_of, span_chances
from thinspans.kinds import is_sight
from thinspans.ordering import ascending, is_ascending
from thinspans.outcomes import as_sights, closed, mixed, tree_outcomes
from thinspans.rules import rule_of
from thinspans.shapes import placed_subtrees
from thinspans.trees import is_path, spans_of


def sight_of(tree, kept):
    """The sight of the trace if just the spans with these paths are kept."""
    if not is_kept(tree, kept):
        raise NotUsable("kept", -1)
    chances = [(ONE, ONE) if path in kept else (ZERO, ZERO) for path, _ in placed_subtrees(tree)]
    return as_sights(closed(tree_outcomes(tree, chances)[0], "top"))[0][0]


def is_kept(tree, thing):
    """Whether any value is a set of paths of spans of the tree."""
    if not isinstance(thing, tuple):
        return False
    return all([is_path(tree, path) for path in thing]) and is_ascending(thing)


def kept_by(tree, rules, draw, pairs):
    """The set of the paths of the spans that are kept by told draws."""
    late = has_bad(tree)
    kept = []
    for (path, service, mark), pair in zip(spans_of(tree), pairs):
        called = path != () and path[:-1] in kept
        # A draw is from 0 to below 1, so it is below a chance of 1 and never below one of 0.
        says = [is_less(own, plain_chance(plain, mark == 1, late, called, draw))
                for plain, own in zip(plains_of(rule_of(rules, service)), pair)]
        if any(says):
            kept.append(path)
    return tuple(kept)


def sights_of(tree, rules):
    """The tuple of the pairs (sight, chance) of all sights that the trace may have."""
    found = []
    for low, width in draw_ranges(rules):
        # A top is as a span whose caller is not kept.
        outcomes = closed(tree_outcomes(tree, span_chances(tree, rules, low))[0], "top")
        found = found + [(sight, times(width, chance)) for sight, chance in as_sights(outcomes)]
    return tuple(mixed(found))


def chance_of(tree, rules, sight):
    """The chance of any value to be the sight of the trace."""
    # What is no sight by its shape could still be equal to one, with True for a mark.
    if is_sight(sight):
        for known, chance in sights_of(tree, rules):
            if known == sight:
                return chance
    return ZERO


def all_sights(kinds, rules):
    """The set of the sights of kinds and rules; that of a trace not seen is none of them."""
    return tuple(ascending([sight for kind in kinds for sight, _ in sights_of(kind, rules) if sight != ()]))


def can_be_whole(tree, rules):
    return chance_of(tree, rules, (("top", tree),)) != ZERO


def can_be_unseen(tree, rules):
    return chance_of(tree, rules, ()) != ZERO
