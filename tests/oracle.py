"""The definitions of the document, worked out once more in the plainest way, by trying all there is."""

from fractions import Fraction
from functools import lru_cache
from itertools import combinations, product


def all_paths(tree, path=()):
    """(path, service, mark) of all spans, the calls of a span behind it."""
    found = [(path, tree[0], tree[1])]
    for j, call in enumerate(tree[2]):
        found += all_paths(call, path + (j,))
    return found


def kept_sight(tree, kept):
    """The sight, kept being any collection of paths."""
    pieces = []

    def kept_trees(here, path):
        """The kept trees that a kept caller of this span would take in."""
        below = [part for j, call in enumerate(here[2]) for part in kept_trees(call, path + (j,))]
        if path in kept:
            return [(here[0], here[1], tuple(sorted(below)))]
        if below:
            pieces.append(('lost', tuple(sorted(below))))
        return []

    pieces += [('top', top) for top in kept_trees(tree, ())]
    return tuple(sorted(pieces))


def plain_rules(rule):
    return rule[1:] if rule[0] == 'or' else (rule,)


def kept_for(tree, rules, low, luck):
    """The kept paths: luck has for (path, which plain rule) whether this "own" says so; low is the trace's draw."""
    late = any(mark for _, _, mark in all_paths(tree))
    kept = set()
    for path, service, mark in all_paths(tree):
        for which, plain in enumerate(plain_rules(dict(rules)[service])):
            if (plain[0] == 'own' and luck[path, which]
                    or plain[0] == 'shared' and low < Fraction(plain[1], plain[2])
                    or plain[0] == 'caller' and path != () and path[:-1] in kept
                    or plain[0] == 'bad' and mark == 1
                    or plain[0] == 'late' and late):
                kept.add(path)
    return kept


@lru_cache(maxsize=None)
def kept_chances(tree, rules):
    """A dict from the sets of kept paths to their chances, by trying all draws."""
    owns = [((path, which), Fraction(plain[1], plain[2])) for path, service, _ in all_paths(tree)
            for which, plain in enumerate(plain_rules(dict(rules)[service])) if plain[0] == 'own']
    bounds = sorted({Fraction(0), Fraction(1)} | {Fraction(plain[1], plain[2]) for _, rule in rules
                                                  for plain in plain_rules(rule) if plain[0] == 'shared'})
    found = {}
    for low, high in zip(bounds, bounds[1:]):
        for says in product((False, True), repeat=len(owns)):
            chance = high - low
            for (_, part), yes in zip(owns, says):
                chance *= part if yes else 1 - part
            if chance:
                luck = {key: yes for (key, _), yes in zip(owns, says)}
                kept = frozenset(kept_for(tree, rules, low, luck))
                found[kept] = found.get(kept, 0) + chance
    return found


@lru_cache(maxsize=None)
def sight_chances(tree, rules):
    """A dict from the sights to their chances."""
    found = {}
    for kept, chance in kept_chances(tree, rules).items():
        sight = kept_sight(tree, kept)
        found[sight] = found.get(sight, 0) + chance
    return found


def part_chances(tree, rules, collectors):
    """A dict from the part sights to their chances: each collector sees the kept spans of its services."""
    services = {path: service for path, service, _ in all_paths(tree)}
    found = {}
    for kept, chance in kept_chances(tree, rules).items():
        for g, some in enumerate(collectors):
            part = kept_sight(tree, {path for path in kept if services[path] in some})
            if part != ():
                found[g, part] = found.get((g, part), 0) + chance
    return found


def pair(fraction):
    return (fraction.numerator, fraction.denominator)


def pairs(chances):
    return tuple((thing, pair(chances[thing])) for thing in sorted(chances))


def seen_sights(kinds, rules):
    return sorted({sight for kind in kinds for sight in sight_chances(kind, rules)} - {()})


def chance_rows(kinds, rules):
    """For each kind its chances of all sights but ()."""
    sights = seen_sights(kinds, rules)
    tables = [sight_chances(kind, rules) for kind in kinds]
    return [[table.get(sight, Fraction(0)) for sight in sights] for table in tables]


def rank(rows):
    """The rank of rows of numbers."""
    rows = [[Fraction(entry) for entry in row] for row in rows]
    found = 0
    for column in range(len(rows[0]) if rows else 0):
        place = next((k for k in range(found, len(rows)) if rows[k][column]), None)
        if place is None:
            continue
        rows[found], rows[place] = rows[place], rows[found]
        for k in range(found + 1, len(rows)):
            share = rows[k][column] / rows[found][column]
            rows[k] = [a - share * b for a, b in zip(rows[k], rows[found])]
        found += 1
    return found


def transposed(rows):
    return [list(column) for column in zip(*rows)]


def told(kinds, rules, question, others=()):
    """Whether the question is a sum of fractions of the sights' columns and of the others."""
    columns = transposed(chance_rows(kinds, rules)) + [list(other) for other in others]
    return rank(columns) == rank(columns + [list(question)]) if columns else not any(question)


def weight_sums(kinds, rules, weights):
    """For each kind the sum of the chances times the weights."""
    tables = [sight_chances(kind, rules) for kind in kinds]
    return [sum((table.get(sight, Fraction(0)) * Fraction(*weight) for sight, weight in weights), Fraction(0))
            for table in tables]


def spread_of(kinds, rules, weights, crowd):
    total = Fraction(0)
    for kind, number in zip(kinds, crowd):
        table = sight_chances(kind, rules)
        known = dict(weights)
        values = [(chance, Fraction(*known.get(sight, (0, 1)))) for sight, chance in table.items()]
        mean = sum(chance * value for chance, value in values)
        total += number * sum(chance * (value - mean) ** 2 for chance, value in values)
    return total


def null_space(rows, width):
    """Lists of numbers, as few as possible, of which all that give 0 with each row are sums of fractions."""
    solved = []
    for row in rows:
        row = [Fraction(entry) for entry in row]
        for place, other in solved:
            row = [a - row[place] * b for a, b in zip(row, other)]
        place = next((k for k in range(width) if row[k]), None)
        if place is not None:
            row = [entry / row[place] for entry in row]
            solved = [(k, [a - other[place] * b for a, b in zip(other, row)]) for k, other in solved] + [(place, row)]
    found = []
    for free in set(range(width)) - {place for place, _ in solved}:
        one = [Fraction(int(k == free)) for k in range(width)]
        for place, row in solved:
            one[place] = -row[free]
        found.append(one)
    return found


@lru_cache(maxsize=None)
def upward_rays(kinds, rules):
    """Upward differences, with fractions, of which all upward ones are sums times numbers from 0 on.

    All blind ones and their opposites; and each that is 0 at as many sights as can be without being
    blind, the blind ones taken off it.
    """
    columns = sorted({tuple(entry / sum(column) for entry in column) for column in transposed(chance_rows(kinds, rules))})
    blind = null_space(columns, len(kinds))
    found = blind + [[-entry for entry in one] for one in blind]
    rest = len(kinds) - len(blind) - 1
    for some in combinations(columns, rest) if rest >= 0 else ():
        ways = null_space(list(some) + blind, len(kinds))
        if len(ways) == 1:
            for sign in (1, -1):
                one = [sign * entry for entry in ways[0]]
                if all(sum(a * b for a, b in zip(one, column)) >= 0 for column in columns):
                    found.append(one)
    return found


def fairly_told(kinds, rules, question):
    """Whether no upward difference has a sum with the question below 0."""
    return all(sum(a * b for a, b in zip(one, question)) >= 0 for one in upward_rays(kinds, rules))


def is_upward(kinds, rules, difference):
    return all(sum(a * b for a, b in zip(difference, column)) >= 0 for column in transposed(chance_rows(kinds, rules)))
