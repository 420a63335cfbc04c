"""The checkers of kinds and of rules of kinds."""

from thinspans.errors import InvalidPaper
from thinspans.kinds import is_rule
from thinspans.shapes import fault_of_span, has_tree_shape, placed_subtrees
from thinspans.trees import services_of, size_of


def lets_kinds(thing):
    """Accepts any value; returns how many spans the kinds have in all."""
    if not isinstance(thing, tuple) or not all([has_tree_shape(kind) for kind in thing]):
        raise InvalidPaper("shape", -1)
    if not thing:
        raise InvalidPaper("none", -1)
    for k, kind in enumerate(thing):
        check_spans(k, kind)
        if k > 0 and not thing[k - 1] < kind:
            raise InvalidPaper("rise", k)
    return sum([size_of(kind) for kind in thing])


def check_spans(k, kind):
    """Raises the error of the first span of kind k that has a fault."""
    for path, here in placed_subtrees(kind):
        word = fault_of_span(here)
        if word is not None:
            raise InvalidPaper(word, (k, path))


def lets_rules(kinds, thing):
    """Accepts any value as thing; returns the number of rules of the kinds."""
    if not isinstance(thing, tuple) or not all([has_pair_shape(pair) for pair in thing]):
        raise InvalidPaper("shape", -1)
    services = services_of(kinds)
    if len(thing) != len(services):
        raise InvalidPaper("many", -1)
    for k, service in enumerate(services):
        if thing[k][0] != service:
            raise InvalidPaper("service", k)
        if not is_rule(thing[k][1]):
            raise InvalidPaper("rule", k)
    return len(thing)


def is_rules(kinds, thing):
    """Whether any value is rules of the kinds."""
    try:
        lets_rules(kinds, thing)
    except InvalidPaper:
        return False
    return True


def has_pair_shape(thing):
    if not isinstance(thing, tuple) or len(thing) != 2:
        return False
    return isinstance(thing[0], str) and isinstance(thing[1], tuple)
