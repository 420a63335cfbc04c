"""A teller, which learns totals."""

from thinspans.blindness import is_told_with, rank_with
from thinspans.chances import chance_table
from thinspans.crowds import check_question, is_question
from thinspans.errors import NotUsable
from thinspans.kindchecker import lets_kinds, lets_rules
from thinspans.kinds import is_number


class Teller:
    """Kinds, rules, and the questions whose totals are known exactly."""

    def __init__(self, kinds, rules):
        lets_kinds(kinds)
        lets_rules(kinds, rules)
        self._kinds = kinds
        self._rules = rules
        self._table = chance_table(kinds, rules)[1]
        self._known = ()

    @property
    def kinds(self):
        return self._kinds

    @property
    def rules(self):
        return self._rules

    @property
    def known(self):
        return self._known

    def learn(self, question):
        """From now on the total of the question is known; returns whether it could not be told before."""
        check_question(self._kinds, question)
        told = is_told_with(self._table, question, self._known)
        self._known = (*self._known, question)
        return not told

    def forget(self):
        """Takes the question that was learned last away and returns it, None if none was."""
        if not self._known:
            return None
        last = self._known[-1]
        self._known = self._known[:-1]
        return last

    def rank(self):
        """The greatest number of questions that can be told now, none of which is a sum of fractions of the others."""
        return rank_with(self._table, self._known)

    def copy(self):
        """Another teller with the same known questions."""
        other = Teller(self._kinds, self._rules)
        other._known = self._known
        return other

    def __len__(self):
        return len(self._known)

    def __getitem__(self, at):
        if not is_number(at) or at >= len(self._known):
            raise NotUsable("place", -1)
        return self._known[at]

    def __iter__(self):
        return iter(self._known)

    def __contains__(self, x):
        return is_question(self._kinds, x) and is_told_with(self._table, x, self._known)

    def __eq__(self, other):
        return (isinstance(other, Teller) and self._kinds == other._kinds and self._rules == other._rules
                and self._known == other._known)
