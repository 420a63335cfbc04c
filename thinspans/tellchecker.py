"""The checker of papers about whether a question is told."""

from thinspans.chances import chance_table
from thinspans.crowds import check_question
from thinspans.errors import InvalidPaper
from thinspans.papers import check_crowds, check_telling, is_form


def lets_told(kinds, rules, question, thing):
    """Accepts any value as thing; returns whether the question is told by it."""
    check_question(kinds, question)
    sights, table = chance_table(kinds, rules)
    if is_form(thing, "weights", 2):
        check_telling(sights, table, question, thing[1])
        return True
    if is_form(thing, "crowds", 3):
        check_crowds(kinds, table, question, thing, ("crowd", "same"))
        return False
    raise InvalidPaper("form", -1)
