"""Papers that show whether a question is told by weights of at least 0."""

from thinspans.fairness import weights_or_difference


def fair_paper(kinds, rules, question):
    """Fair weights that tell the question, or an upward difference whose sum with it is below 0."""
    weights, difference = weights_or_difference(kinds, rules, question)
    if weights is None:
        return ("upward", difference)
    return ("weights", weights)
