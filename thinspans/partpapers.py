"""Papers that show whether a question is told when collectors cannot join what they see."""

from thinspans.chances import columns_of
from thinspans.collecting import part_table, part_weights
from thinspans.equations import null_base
from thinspans.tellpapers import two_crowds


def parting_paper(kinds, rules, collectors, question):
    """Part weights that tell the question, or two crowds that look the same to the collectors but have other totals."""
    weights = part_weights(kinds, rules, collectors, question)
    if weights is not None:
        return ("weights", weights)
    _, table = part_table(kinds, rules, collectors)
    more, fewer = two_crowds(null_base(columns_of(table), len(kinds)), question)
    return ("crowds", more, fewer)
