"""Whether any value is what the definitions say: each function returns True or False."""

from math import gcd

from thinspans.ordering import is_ascending, is_sorted
from thinspans.shapes import fault_of_span, has_tree_shape, is_service_name, is_whole, subtrees_of


def is_integer(thing):
    return is_whole(thing)


def is_number(thing):
    return is_whole(thing) and thing >= 0


def is_name(thing):
    return isinstance(thing, str) and is_service_name(thing)


def is_fraction(thing):
    if not isinstance(thing, tuple) or len(thing) != 2:
        return False
    p, q = thing
    return is_whole(p) and is_whole(q) and q >= 1 and gcd(p, q) == 1


def is_tree(thing):
    """Whether it is a span tree."""
    return has_tree_shape(thing) and all([fault_of_span(tree) is None for tree in subtrees_of(thing)])


def is_kinds(thing):
    if not isinstance(thing, tuple) or not thing:
        return False
    return all([is_tree(kind) for kind in thing]) and is_ascending(thing)


def is_plain(thing):
    """Whether it is a plain rule."""
    if not isinstance(thing, tuple):
        return False
    if len(thing) == 1:
        return thing[0] in ("never", "caller", "bad", "late")
    return len(thing) == 3 and thing[0] in ("own", "shared") and is_part(thing[1], thing[2])


def is_part(p, q):
    """Whether p of q is a chance, perhaps not reduced."""
    return is_number(p) and is_number(q) and q >= 1 and p <= q


def is_rule(thing):
    if is_plain(thing):
        return True
    if not isinstance(thing, tuple) or len(thing) != 3:
        return False
    return thing[0] == "or" and is_plain(thing[1]) and is_plain(thing[2])


def is_sight(thing):
    """Whether it is a sight by its shape, whatever kinds there are."""
    if not isinstance(thing, tuple) or not all([is_piece(piece) for piece in thing]):
        return False
    tops = [piece for piece in thing if piece[0] == "top"]
    return len(tops) <= 1 and is_sorted(thing)


def is_piece(thing):
    if not isinstance(thing, tuple) or len(thing) != 2:
        return False
    word, held = thing
    if word == "top":
        return is_tree(held)
    return word == "lost" and is_calls(held)


def is_calls(thing):
    """Whether it is the kept trees of a lost caller."""
    if not isinstance(thing, tuple) or not thing:
        return False
    return all([is_tree(tree) for tree in thing]) and is_sorted(thing)
