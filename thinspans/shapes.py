"""Span trees by their shape alone: (string, integer, tuple of such values)."""

from thinspans.ordering import is_sorted


def is_whole(thing):
    """Whether any value is an integer that is not a bool."""
    return isinstance(thing, int) and not isinstance(thing, bool)


def has_span_shape(thing):
    return (isinstance(thing, tuple) and len(thing) == 3 and isinstance(thing[0], str)
            and is_whole(thing[1]) and isinstance(thing[2], tuple))


def has_tree_shape(thing):
    # Without recursion, since trees that the package returned may be of any depth.
    waiting = [thing]
    while waiting:
        here = waiting.pop()
        if not has_span_shape(here):
            return False
        waiting.extend(here[2])
    return True


def placed_subtrees(tree):
    """The list of (path, subtree) for all spans of a value with the shape of a tree, by ascending paths."""
    found = []
    waiting = [((), tree)]
    while waiting:
        path, here = waiting.pop()
        found.append((path, here))
        places = list(range(len(here[2])))
        waiting.extend([((*path, place), here[2][place]) for place in places[::-1]])
    return found


def subtrees_of(tree):
    """The list of the subtrees of all spans, in the order of their paths."""
    found = []
    waiting = [tree]
    while waiting:
        here = waiting.pop()
        found.append(here)
        waiting.extend(here[2][::-1])
    return found


def subtrees_in_sight(sight):
    """The list of the subtrees of all spans in the sight."""
    trees = [tree for word, held in sight for tree in ((held,) if word == "top" else held)]
    return [here for tree in trees for here in subtrees_of(tree)]


def is_service_name(text):
    return 1 <= len(text) <= 8 and all([letter in "abcdefghijklmnopqrstuvwxyz" for letter in text])


def is_mark(thing):
    return is_whole(thing) and thing in (0, 1)


def fault_of_span(tree):
    """The word of the first fault of the top of a value with the shape of a tree, or None."""
    service, mark, trees = tree
    if not is_service_name(service):
        return "service"
    if not is_mark(mark):
        return "mark"
    if not is_sorted(trees):
        return "order"
    return None
