"""By which chance, or by which draw, a rule keeps a span."""

from math import lcm

from thinspans.fractions import ONE, ZERO, is_less, made, minus, times
from thinspans.ordering import ascending
from thinspans.rules import rule_of
from thinspans.shapes import subtrees_of


def plains_of(rule):
    """The one or two plain rules of a rule."""
    if rule[0] == "or":
        return (rule[1], rule[2])
    return (rule,)


def has_bad(tree):
    """Whether any span of the tree has the mark 1."""
    return any([here[1] == 1 for here in subtrees_of(tree)])


def plain_chance(plain, bad, late, called, draw):
    """The chance that a plain rule keeps a span.

    bad: its mark is 1; late: a mark of its trace is; called: its caller is kept;
    draw: that of its trace.
    """
    word = plain[0]
    if word == "own":
        return made(plain[1], plain[2])
    says = ((word == "shared" and is_less(draw, made(plain[1], plain[2]))) or (word == "caller" and called)
            or (word == "bad" and bad) or (word == "late" and late))
    return ONE if says else ZERO


def rule_chance(rule, bad, late, called, draw):
    """The chance that a rule keeps a span; the values are those of plain_chance."""
    missed = ONE
    for plain in plains_of(rule):
        missed = times(missed, minus(ONE, plain_chance(plain, bad, late, called, draw)))
    return minus(ONE, missed)


def span_chances(tree, rules, draw):
    """For each span the pair of its chances if its caller is not kept, and if it is."""
    late = has_bad(tree)
    return [tuple([rule_chance(rule_of(rules, here[0]), here[1] == 1, late, called, draw) for called in (False, True)])
            for here in subtrees_of(tree)]


def draw_ranges(rules):
    """The pairs (low, width) of the ranges of a trace's draw in each of which all rules say the same."""
    shared = [plain for _, rule in rules for plain in plains_of(rule) if plain[0] == "shared"]
    common = 1
    for plain in shared:
        common = lcm(common, plain[2])
    bounds = ascending([0, common] + [plain[1] * (common // plain[2]) for plain in shared])
    return [(made(low, common), made(high - low, common)) for low, high in zip(bounds, bounds[1:])]
