"""The checker of papers about collectors that cannot join what they see."""

from thinspans.chances import fractions_for
from thinspans.collecting import check_collectors, part_table
from thinspans.crowds import check_question
from thinspans.errors import InvalidPaper
from thinspans.fractions import ZERO
from thinspans.kinds import is_number, is_sight
from thinspans.ordering import is_ascending
from thinspans.papers import are_weighted, check_crowds, check_sums, is_form


def lets_parting(kinds, rules, collectors, question, thing):
    """Accepts any value as thing; returns whether the question is told apart by it."""
    check_collectors(kinds, collectors)
    check_question(kinds, question)
    if not has_paper_shape(thing):
        raise InvalidPaper("shape", -1)
    parts, table = part_table(kinds, rules, collectors)
    if thing[0] == "crowds":
        check_crowds(kinds, table, question, thing, ("many", "total"))
        return False
    if not are_part_weights(parts, thing[1]):
        raise InvalidPaper("weights", -1)
    check_sums(table, fractions_for(parts, thing[1]), question, "tells")
    return True


def has_paper_shape(thing):
    if is_form(thing, "weights", 2):
        return are_weighted(thing[1])
    return is_form(thing, "crowds", 3) and are_numbers(thing[1]) and are_numbers(thing[2])


def are_numbers(thing):
    """Whether it is a tuple of numbers."""
    return isinstance(thing, tuple) and all([is_number(part) for part in thing])


def are_part_weights(parts, weights):
    """Whether pairs (any value, fraction) are part weights, the parts being all part sights."""
    if not all([is_one_of(parts, part) and weight != ZERO for part, weight in weights]):
        return False
    return is_ascending([part for part, _ in weights])


def is_one_of(parts, thing):
    """Whether any value is one of the part sights."""
    # What has True in place of a number is equal to one without being it.
    if not isinstance(thing, tuple) or len(thing) != 2:
        return False
    return is_number(thing[0]) and is_sight(thing[1]) and thing in parts
