"""Epochs of a book: rules, and what was seen while they were in force."""

from thinspans.chances import chance_table, nonzero_pairs
from thinspans.fractions import dot, whole_fractions
from thinspans.spreading import least_along


class Epoch:
    """The rules of an epoch, its counts, and the weights of all questions by its rules. It never changes."""

    def __init__(self, in_force, sights, chances, counts, weighings):
        self.in_force = in_force
        self.sights = sights
        self.chances = chances
        # One number for each sight; and for each question a list of its weights, one for each sight.
        self.counts = counts
        self.weighings = weighings


def new_epoch(kinds, rules, questions):
    """The epoch of these rules in which nothing was seen; its weights are None for a question that is not told."""
    sights, table = chance_table(kinds, rules)
    weighings = tuple([weighing_by(table, question) for question in questions])
    return Epoch(rules, sights, table, tuple([0 for _ in sights]), weighings)


def weighing_by(table, question):
    """The weights of least spread in the crowd with one trace of each kind, None if the question is not told."""
    found = least_along(table, question, tuple([1 for _ in table]))
    if found is None:
        return None
    return found[0]


def count_of(epoch, sight):
    return epoch.counts[epoch.sights.index(sight)]


def with_count(epoch, sight, count):
    """The epoch with another count of this sight."""
    place = epoch.sights.index(sight)
    counts = (*epoch.counts[:place], count, *epoch.counts[place + 1:])
    return Epoch(epoch.in_force, epoch.sights, epoch.chances, counts, epoch.weighings)


def with_weighings(epoch, weighings):
    return Epoch(epoch.in_force, epoch.sights, epoch.chances, epoch.counts, weighings)


def part_of_total(epoch, weighing):
    """What the epoch adds to the total of a question with these weights."""
    return dot(whole_fractions(epoch.counts), weighing)


def counts_of(epoch):
    """The pairs (sight, number) of what was seen in the epoch."""
    return tuple([(sight, count) for sight, count in zip(epoch.sights, epoch.counts) if count != 0])


def weights_in(epoch, k):
    """The weights of question k in the epoch."""
    return nonzero_pairs(epoch.sights, epoch.weighings[k])
