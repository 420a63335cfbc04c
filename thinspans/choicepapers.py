"""Papers that show which rules are the cheapest."""

from thinspans.asking import untold_places, weights_for
from thinspans.choosing import cheaper_choices, cheapest, rules_by
from thinspans.tellpapers import tell_paper


def choice_paper(kinds, options, crowd, questions):
    """A choice of the least cost, weights by it, and for each cheaper choice what it does not tell; None if none."""
    found = cheapest(kinds, options, crowd, questions)
    if found is None:
        return None
    cost, choices = found
    rules = rules_by(options, choices[0])
    weights = tuple([weights_for(kinds, rules, question) for question in questions])
    cheaper = cheaper_choices(kinds, options, crowd, cost)
    return choices[0], weights, tuple([bar_of(kinds, rules_by(options, choice), questions) for choice in cheaper])


def bar_of(kinds, rules, questions):
    """The first question that is not told by the rules, with two alike crowds that show it."""
    j = untold_places(kinds, rules, questions)[0]
    _, one, other = tell_paper(kinds, rules, questions[j])
    return j, one, other
