"""Questions that are told, but not by other rules or by collectors that cannot join what they see."""

from thinspans.asking import along_for, untold_places
from thinspans.choosing import check_questions
from thinspans.collecting import check_collectors, part_table


def lost_by(kinds, rules, other, questions):
    """The set of the indexes of the questions that are told by rules, but not by other."""
    check_questions(kinds, questions)
    untold = untold_places(kinds, rules, questions)
    return tuple([j for j in untold_places(kinds, other, questions) if j not in untold])


def lost_apart(kinds, rules, collectors, questions):
    """The set of the indexes of the questions that are told, but not by part weights."""
    check_collectors(kinds, collectors)
    check_questions(kinds, questions)
    untold = untold_places(kinds, rules, questions)
    _, table = part_table(kinds, rules, collectors)
    return tuple([j for j, question in enumerate(questions)
                  if j not in untold and along_for(table, question) is None])
