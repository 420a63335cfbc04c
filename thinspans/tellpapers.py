"""Papers that show whether a question is told."""

from thinspans.asking import weights_for
from thinspans.blindness import blind_base
from thinspans.fractions import total_of


def tell_paper(kinds, rules, question):
    """Weights that tell the question, or two alike crowds in which its totals are not the same."""
    weights = weights_for(kinds, rules, question)
    if weights is not None:
        return ("weights", weights)
    more, fewer = two_crowds(blind_base(kinds, rules), question)
    return ("crowds", more, fewer)


def two_crowds(base, question):
    """Two crowds with different totals of a question that is not told; their difference is one of the base,
    which consists of differences that cannot be seen, as few as those of all which cannot."""
    # What is not told has a sum other than 0 with some difference of each such base.
    unlike = [difference for difference in base if total_of(question, difference) != 0]
    more = tuple([max(0, integer) for integer in unlike[0]])
    fewer = tuple([max(0, -integer) for integer in unlike[0]])
    return more, fewer
