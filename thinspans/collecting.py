"""What is told when collectors cannot join what they see."""

from thinspans.asking import along_for
from thinspans.chances import nonzero_pairs, table_of
from thinspans.crowds import check_question
from thinspans.errors import NotUsable
from thinspans.kinds import is_name
from thinspans.leaving import left_of
from thinspans.ordering import is_ascending
from thinspans.outcomes import mixed
from thinspans.sighting import sights_of
from thinspans.trees import services_of


def part_sights(kinds, rules, collectors):
    """The set of the part sights (collector, what is left for it) with a chance above 0."""
    check_collectors(kinds, collectors)
    return part_table(kinds, rules, collectors)[0]


def is_told_apart(kinds, rules, collectors, question):
    return part_weights(kinds, rules, collectors, question) is not None


def part_weights(kinds, rules, collectors, question):
    """Any part weights that tell the question, None if there are none."""
    check_collectors(kinds, collectors)
    check_question(kinds, question)
    parts, table = part_table(kinds, rules, collectors)
    found = along_for(table, question)
    if found is None:
        return None
    return nonzero_pairs(parts, found)


def part_table(kinds, rules, collectors):
    """The pair of the set of the part sights and, for each kind, the list of its chances of them."""
    return table_of([parts_of(kind, rules, collectors) for kind in kinds])


def parts_of(kind, rules, collectors):
    """The list of the pairs (part sight, chance) of a kind, ascending."""
    seen = sights_of(kind, rules)
    found = [((g, left_of(sight, services)), chance)
             for g, services in enumerate(collectors) for sight, chance in seen]
    return mixed([(part, chance) for part, chance in found if part[1] != ()])


def check_collectors(kinds, thing):
    if not is_collectors(kinds, thing):
        raise NotUsable("collectors", -1)


def is_collectors(kinds, thing):
    """Whether it is a tuple of nonempty sets of services that have together each service once."""
    if not isinstance(thing, tuple) or not all([is_names(part) for part in thing]):
        return False
    return sorted([service for part in thing for service in part]) == list(services_of(kinds))


def is_names(thing):
    """Whether it is a nonempty set of names."""
    if not isinstance(thing, tuple) or not thing:
        return False
    return all([is_name(service) for service in thing]) and is_ascending(thing)
