"""The cost of rules, and the cheapest rules out of options by which questions are told."""

from thinspans.asking import untold_places
from thinspans.averages import kept_spans
from thinspans.crowds import check_crowd, is_question
from thinspans.errors import NotUsable
from thinspans.fractions import is_less, sum_of
from thinspans.kinds import is_number, is_rule
from thinspans.ordering import ascending
from thinspans.trees import services_of


def cost_of(kinds, rules, crowd):
    """How many spans of the crowd are kept on the average."""
    return sum_of([often for _, often in kept_spans(kinds, rules, crowd)])


def chosen_rules(kinds, options, choice):
    """The rules for which the choice stands."""
    check_options(kinds, options)
    if not is_choice(options, choice):
        raise NotUsable("choice", -1)
    return rules_by(options, choice)


def rules_by(options, choice):
    return tuple([(service, rules[k]) for (service, rules), k in zip(options, choice)])


def cheapest(kinds, options, crowd, questions):
    """The pair of the least cost by which all questions are told, and the choices with it; None if there are none."""
    check_options(kinds, options)
    check_crowd(kinds, crowd)
    check_questions(kinds, questions)
    good = [(choice, cost) for choice, cost in choices_and_costs(kinds, options, crowd)
            if not untold_places(kinds, rules_by(options, choice), questions)]
    if not good:
        return None
    least = least_of([cost for _, cost in good])
    return least, tuple([choice for choice, cost in good if cost == least])


def choices_and_costs(kinds, options, crowd):
    """The list of the pairs (choice, cost) of all choices, ascending by these."""
    return [(choice, cost_of(kinds, rules_by(options, choice), crowd)) for choice in choices_of(options)]


def choices_of(options):
    """The list of all choices, ascending."""
    found = [()]
    for _, rules in options:
        found = [(*choice, k) for choice in found for k in range(len(rules))]
    return found


def cheaper_choices(kinds, options, crowd, cost):
    """The list of the choices with a lesser cost, ascending."""
    return [choice for choice, other in choices_and_costs(kinds, options, crowd) if is_less(other, cost)]


def least_of(fractions):
    least = fractions[0]
    for fraction in fractions:
        if is_less(fraction, least):
            least = fraction
    return least


def check_options(kinds, thing):
    if not is_options(kinds, thing):
        raise NotUsable("options", -1)


def is_options(kinds, thing):
    if not isinstance(thing, tuple) or not all([is_option(pair) for pair in thing]):
        return False
    return [service for service, _ in thing] == list(services_of(kinds))


def is_option(thing):
    """Whether it is a pair of any value and a nonempty tuple of distinct rules."""
    if not isinstance(thing, tuple) or len(thing) != 2:
        return False
    rules = thing[1]
    if not isinstance(rules, tuple) or not rules or not all([is_rule(rule) for rule in rules]):
        return False
    return len(ascending(rules)) == len(rules)


def is_choice(options, thing):
    if not isinstance(thing, tuple) or len(thing) != len(options):
        return False
    return all([is_number(k) and k < len(rules) for k, (_, rules) in zip(thing, options)])


def check_questions(kinds, thing):
    if not is_questions(kinds, thing):
        raise NotUsable("questions", -1)


def is_questions(kinds, thing):
    """Whether it is a nonempty tuple of questions, perhaps some alike."""
    return isinstance(thing, tuple) and thing != () and all([is_question(kinds, part) for part in thing])
