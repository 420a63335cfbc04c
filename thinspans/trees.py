"""Span trees: their spans, the paths of these, and other trees made of them."""

from thinspans.errors import NotUsable
from thinspans.kinds import is_integer, is_name, is_tree
from thinspans.ordering import ascending
from thinspans.shapes import is_mark, placed_subtrees, subtrees_of


def spans_of(tree):
    """The tuple of (path, service, mark) for all spans, by ascending paths."""
    return tuple([(path, here[0], here[1]) for path, here in placed_subtrees(tree)])


def tree_at(tree, path):
    """The span tree of the span with this path."""
    if not is_path(tree, path):
        raise NotUsable("path", -1)
    here = tree
    for place in path:
        here = here[2][place]
    return here


def is_path(tree, thing):
    """Whether any value is the path of a span of the tree."""
    if not isinstance(thing, tuple):
        return False
    here = tree
    for place in thing:
        if not is_integer(place) or place < 0 or place >= len(here[2]):
            return False
        here = here[2][place]
    return True


def size_of(tree):
    return len(subtrees_of(tree))


def services_of(kinds):
    """The set of the services of the kinds."""
    return tuple(ascending([here[0] for kind in kinds for here in subtrees_of(kind)]))


def tree_of(service, mark, *trees):
    """The span tree with these calls."""
    if not is_name(service):
        raise NotUsable("service", -1)
    if not is_mark(mark):
        raise NotUsable("mark", -1)
    for k, tree in enumerate(trees):
        if not is_tree(tree):
            raise NotUsable("tree", k)
    return (service, mark, tuple(sorted(trees)))


def pruned(tree, path):
    """The tree without this span and all below it."""
    if path == () or not is_path(tree, path):
        raise NotUsable("path", -1)
    left = with_calls(tree, path, ())
    for deep in range(len(path) - 1, 0, -1):
        left = with_calls(tree, path[:deep], (left,))
    return left


def with_calls(tree, path, others):
    """The tree of the caller of this span, with others among its calls in place of the span."""
    service, mark, trees = tree_at(tree, path[:-1])
    place = path[-1]
    return (service, mark, tuple(sorted(trees[:place] + others + trees[place + 1:])))
