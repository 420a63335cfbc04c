"""Papers that show whether a question is told."""

from thinspans.asking import weights_for
from thinspans.blindness import blind_base
from thinspans.fractions import total_of


def tell_paper(kinds, rules, question):
    """Weights that tell the question, or two alike crowds in which its totals are not the same."""
    weights = weights_for(kinds, rules, question)
    if weights is not None:
        return ("weights", weights)
    # What is not told has a sum other than 0 with some difference of each base of the blind ones.
    seen = [difference for difference in blind_base(kinds, rules) if total_of(question, difference) != 0]
    more = tuple([max(0, integer) for integer in seen[0]])
    fewer = tuple([max(0, -integer) for integer in seen[0]])
    return ("crowds", more, fewer)
