"""What checkers must say of papers, by the words of [40], [45] and [52]: (word, at), or what is returned."""

from fractions import Fraction

from tests import oracle
from tests.test_collecting import part_rows
from tests.test_spreadchecker import is_exact, is_pair
from thinspans.kinds import is_sight


def is_integers(kinds, thing):
    return type(thing) is tuple and len(thing) == len(kinds) and all(type(part) is int for part in thing)


def is_crowd_of(kinds, thing):
    return is_integers(kinds, thing) and min(thing) >= 0


def is_told_weights(sights, thing):
    """Whether it is weights of these sights."""
    if type(thing) is not tuple or not all(is_pair(pair) and is_exact(pair[1]) and pair[1] != (0, 1) for pair in thing):
        return False
    known = [sight for sight, _ in thing]
    return all(is_sight(sight) and sight in sights for sight in known) and sorted(set(known)) == known


def fault_of_weights(kinds, rules, question, thing):
    if not is_told_weights(oracle.seen_sights(kinds, rules), thing):
        return 'weights', -1
    for k, told in enumerate(oracle.weight_sums(kinds, rules, thing)):
        if told != question[k]:
            return 'kind', k
    return None


def sums_at_sights(kinds, rules, difference):
    return [sum(part * entry for part, entry in zip(difference, column)) for column in oracle.transposed(oracle.chance_rows(kinds, rules))]


def total(question, crowd):
    return sum(integer * number for integer, number in zip(question, crowd))


def told_verdict(kinds, rules, question, thing):
    """[41]."""
    if type(thing) is tuple and len(thing) == 2 and thing[0] == 'weights':
        return fault_of_weights(kinds, rules, question, thing[1]) or True
    if type(thing) is not tuple or len(thing) != 3 or thing[0] != 'crowds':
        return 'form', -1
    for place in (1, 2):
        if not is_crowd_of(kinds, thing[place]):
            return 'crowd', place
    for n, often in enumerate(sums_at_sights(kinds, rules, [one - other for one, other in zip(thing[1], thing[2])])):
        if often != 0:
            return 'sight', n
    return ('same', -1) if total(question, thing[1]) == total(question, thing[2]) else False


def fair_verdict(kinds, rules, question, thing):
    """[45]."""
    if type(thing) is not tuple or len(thing) != 2 or thing[0] not in ('weights', 'upward'):
        return 'form', -1
    if thing[0] == 'weights':
        below = [n for n, (_, part) in enumerate(thing[1]) if Fraction(*part) < 0] if fault_of_weights(kinds, rules, question, thing[1]) is None else []
        return fault_of_weights(kinds, rules, question, thing[1]) or (('below', below[0]) if below else True)
    if not is_integers(kinds, thing[1]):
        return 'difference', -1
    for n, often in enumerate(sums_at_sights(kinds, rules, thing[1])):
        if often < 0:
            return 'sight', n
    return False if total(question, thing[1]) < 0 else ('sum', -1)


def part_fault(kinds, rules, collectors, question, weights):
    parts, rows = part_rows(kinds, rules, collectors)
    known = [part for part, _ in weights]
    if not all(is_pair(part) and type(part[0]) is int and is_sight(part[1]) and part in parts for part in known):
        return 'weights', -1
    if sorted(set(known)) != known or any(part == (0, 1) for _, part in weights):
        return 'weights', -1
    weigh = {part: Fraction(*weight) for part, weight in weights}
    for k, row in enumerate(rows):
        if sum(entry * weigh.get(part, 0) for part, entry in zip(parts, row)) != question[k]:
            return 'tells', k
    return None


def parting_verdict(kinds, rules, collectors, question, thing):
    """[52]."""
    if type(thing) is not tuple or not thing or not all(type(part) is tuple for part in thing[1:]):
        return 'shape', -1
    if thing[0] == 'weights' and len(thing) == 2 and all(is_pair(pair) and is_exact(pair[1]) for pair in thing[1]):
        return part_fault(kinds, rules, collectors, question, thing[1]) or True
    if thing[0] != 'crowds' or len(thing) != 3 or not all(type(part) is int and part >= 0 for crowd in thing[1:] for part in crowd):
        return 'shape', -1
    for place in (1, 2):
        if len(thing[place]) != len(kinds):
            return 'many', place
    difference = [one - other for one, other in zip(thing[1], thing[2])]
    for n, column in enumerate(oracle.transposed(part_rows(kinds, rules, collectors)[1])):
        if sum(part * entry for part, entry in zip(difference, column)) != 0:
            return 'sight', n
    return False if total(question, difference) else ('total', -1)
