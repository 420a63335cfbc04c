"""What is seen of a crowd on the average, and which kinds look alike."""

from thinspans.chances import chance_table, columns_of, nonzero_pairs, often_of
from thinspans.crowds import check_crowd
from thinspans.fractions import dot, whole_fractions
from thinspans.shapes import subtrees_in_sight
from thinspans.sighting import chance_of, sights_of
from thinspans.trees import services_of


def expected(kinds, rules, crowd):
    """The ascending tuple of the pairs (sight, how often it is seen of the crowd on the average)."""
    check_crowd(kinds, crowd)
    sights, table = chance_table(kinds, rules)
    return nonzero_pairs(sights, often_of(columns_of(table), crowd))


def unseen(kinds, rules, crowd):
    """The average number of traces of the crowd that are not seen."""
    check_crowd(kinds, crowd)
    return dot(whole_fractions(crowd), [chance_of(kind, rules, ()) for kind in kinds])


def kept_spans(kinds, rules, crowd):
    """The pairs (service, how many of its spans are kept on the average) of all services."""
    seen = expected(kinds, rules, crowd)
    often = [some for _, some in seen]
    return tuple([(service, dot(whole_fractions([spans_with(sight, service) for sight, _ in seen]), often))
                  for service in services_of(kinds)])


def spans_with(sight, service):
    """How many spans of this service are in the sight."""
    return len([here for here in subtrees_in_sight(sight) if here[0] == service])


def look_alikes(kinds, rules):
    """The sets of the indexes of kinds that have the same chances of all sights, ascending."""
    looks = [sights_of(kind, rules) for kind in kinds]
    firsts = [k for k, look in enumerate(looks) if looks.index(look) == k]
    return tuple([tuple([k for k, look in enumerate(looks) if look == looks[first]]) for first in firsts])
