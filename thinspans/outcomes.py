"""What may be left of span trees if each span is kept by chance.

An outcome is a pair ((trees, pieces), chance): the kept trees that a kept caller
would take in, and the pieces that are complete already, both sorted.
"""

from thinspans.fractions import ONE, ZERO, minus, plus, times
from thinspans.shapes import subtrees_of

NOTHING = ((), ())


def mixed(pairs):
    """The list of the pairs (thing, chance), ascending, equal things put together."""
    merged = []
    for thing, chance in sorted(pairs):
        if merged and merged[-1][0] == thing:
            merged[-1] = (thing, plus(merged[-1][1], chance))
        else:
            merged.append((thing, chance))
    return merged


def joined(parts):
    """The outcomes of independent parts beside one another."""
    together = [(NOTHING, ONE)]
    for part in parts:
        together = mixed([both(one, other) for one in together for other in part])
    return together


def both(one, other):
    (trees, pieces), chance = one
    (more_trees, more_pieces), second = other
    held = (tuple(sorted(trees + more_trees)), tuple(sorted(pieces + more_pieces)))
    return (held, times(chance, second))


def closed(outcomes, word):
    """The outcomes when no kept caller takes their trees in: these are a piece of this word."""
    return mixed([(((), with_piece(trees, pieces, word)), chance) for (trees, pieces), chance in outcomes])


def with_piece(trees, pieces, word):
    if not trees:
        return pieces
    piece = ("top", trees[0]) if word == "top" else ("lost", trees)
    return tuple(sorted(pieces + (piece,)))


def tree_outcomes(tree, chances):
    """The pair of the outcomes of the tree if its caller is not kept, and if it is.

    chances has for each span, in the order of the paths, the pair of its chances
    to be kept if its caller is not kept, and if it is.
    """
    done = []
    trees = subtrees_of(tree)
    for k in range(len(trees) - 1, -1, -1):
        service, mark, calls = trees[k]
        # The calls of this span are the last ones that are done, its first call on top.
        parts = [done.pop() for _ in calls]
        gone = closed(joined([part[0] for part in parts]), "lost")
        kept = [(((service, mark, inner),), pieces, chance)
                for (inner, pieces), chance in joined([part[1] for part in parts])]
        done.append(tuple([kept_or_gone(chance, kept, gone) for chance in chances[k]]))
    return done[0]


def kept_or_gone(chance, kept, gone):
    """The outcomes of a span that is kept with this chance."""
    found = []
    if chance != ZERO:
        found = found + [((trees, pieces), times(chance, part)) for trees, pieces, part in kept]
    if chance != ONE:
        found = found + [(held, times(minus(ONE, chance), part)) for held, part in gone]
    return mixed(found)


def as_sights(outcomes):
    """The pairs (sight, chance) of outcomes that are closed."""
    return [(held[1], chance) for held, chance in outcomes]
