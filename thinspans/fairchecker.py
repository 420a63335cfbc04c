"""The checker of papers about weights of at least 0."""

from thinspans.chances import chance_table, columns_of, often_of
from thinspans.crowds import check_question, is_question
from thinspans.errors import InvalidPaper
from thinspans.fractions import ZERO, is_less, total_of
from thinspans.papers import check_telling, is_form


def lets_fair(kinds, rules, question, thing):
    """Accepts any value as thing; returns whether fair weights tell the question by it."""
    check_question(kinds, question)
    sights, table = chance_table(kinds, rules)
    if is_form(thing, "weights", 2):
        check_telling(sights, table, question, thing[1])
        check_fair(thing[1])
        return True
    if is_form(thing, "upward", 2):
        check_upward(kinds, table, question, thing[1])
        return False
    raise InvalidPaper("form", -1)


def check_fair(weights):
    """Raises the error of the first of the weights that is below 0."""
    for n, (_, weight) in enumerate(weights):
        if is_less(weight, ZERO):
            raise InvalidPaper("below", n)


def check_upward(kinds, table, question, thing):
    """Raises the error of any value that is no upward difference whose sum with the question is below 0."""
    if not is_question(kinds, thing):
        raise InvalidPaper("difference", -1)
    for n, often in enumerate(often_of(columns_of(table), thing)):
        if is_less(often, ZERO):
            raise InvalidPaper("sight", n)
    if total_of(question, thing) >= 0:
        raise InvalidPaper("sum", -1)
