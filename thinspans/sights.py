"""A sight as an object."""

from thinspans.errors import NotUsable
from thinspans.fractions import ZERO
from thinspans.kinds import is_sight
from thinspans.leaving import left_of
from thinspans.ordering import ascending
from thinspans.shapes import subtrees_in_sight
from thinspans.sighting import chance_of
from thinspans.trees import services_of


class Sight:
    """The pieces of a sight. It never changes."""

    def __init__(self, pieces):
        if not is_sight(pieces):
            raise NotUsable("sight", -1)
        self._spans = subtrees_in_sight(pieces)
        self.pieces = pieces
        self.bad = len([span for span in self._spans if span[1] == 1])
        self.services = tuple(ascending([span[0] for span in self._spans]))

    def __len__(self):
        return len(self._spans)

    def __iter__(self):
        return iter(self.pieces)

    def __contains__(self, x):
        return x in self.services

    def __eq__(self, other):
        return isinstance(other, Sight) and self.pieces == other.pieces

    def left(self, services):
        """The sight that is left if of its spans only those of these services are kept."""
        return Sight(left_of(self.pieces, services))

    def could_be(self, tree):
        """Whether it is the sight of a trace with this span tree for some set of kept spans."""
        # By such rules each set of spans may be kept.
        rules = tuple([(service, ("own", 1, 2)) for service in services_of((tree,))])
        return chance_of(tree, rules, self.pieces) != ZERO
