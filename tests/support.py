"""What the tests share: the document's examples, strange values, checks, random traces."""

import inspect
import random
import unittest

from tests import oracle

ALONE, FINE, WRONG = ('front', 0, ()), ('front', 0, (('pay', 0, ()),)), ('front', 0, (('pay', 1, ()),))
KINDS = (ALONE, FINE, WRONG)
RULES = (('front', ('own', 1, 2)), ('pay', ('bad',)))
NONE = (0, 1)

BIG = 10 ** 59 + 7

# Of kinds with three kinds.
NO_QUESTIONS = [0, 1, (), (1,), (1, 2), (1, 2, 3, 4), [1, 2, 3], (1, 2, True), (False, 0, 0), (1, 2, (3, 1)), (1, 2, '3'),
                (1, 2, None), ((1, 2, 3),), (1, 2, [3]), ((1, 1), (1, 1), (1, 1))]


def nested(levels, ground, as_list=False):
    for _ in range(levels):
        ground = [ground] if as_list else (ground,)
    return ground


def strange_values():
    """Values of all kinds that [2] lists; none of them is a question, crowd, weights or path."""
    return [
        -1, -7, BIG, -BIG, True, False, None,
        '', 'a', 'abcdefgh', 'abcdefghi', 'Front', 'fRont', 'a b', 'a1', 'a\n', '\n', '~', ' ', 'x' * 4000,
        'own', 'shared', 'never', 'or', 'top', 'lost', 'caller', 'bad', 'late',
        [], [()], [[]], ((),) * 9, (True,), (False,), (None,), ('a',), ['a'], (BIG, 'a'), [1, 2, 3],
        (True, 1, 1), (1, False, 0), (1, 2, None), (1, '2', 3), (1, 2, (3,)), [0, 0, 0], (0, 0, [0]),
        ('a', 0), ('a', 0, 1), ('a', 0, [()]), ('a', True, ()), ['a', 0, ()], ('a', 0, ((),)),
        ('never',) * 4, ('own', 1), ('own', 1, 2, 3), ('or', ('bad',)), ('top',), ('lost', ()),
        nested(40, 0), nested(40, 'a'), nested(40, None, True), nested(39, ()), [0] * 5000, (None,) * 5000,
    ]


def same(one, other):
    """Equal, and of the same kinds throughout, so that True is not 1 and a list is no tuple."""
    if type(one) is not type(other):
        return False
    if isinstance(one, (tuple, list)):
        return len(one) == len(other) and all(same(a, b) for a, b in zip(one, other))
    return one == other


def named(function, args):
    """The arguments by the names of the parameters, or None where one goes behind a star."""
    if function is str:
        return None
    parameters = list(inspect.signature(function).parameters.values())
    plain = [p for p in parameters if p.kind == p.POSITIONAL_OR_KEYWORD]
    if len(args) > len(plain):
        return None
    return {p.name: arg for p, arg in zip(plain, args)}


class Case(unittest.TestCase):

    def outcomes(self, function, args):
        """What the function does with the arguments by position and by name."""
        before = repr(args)
        found = []
        keywords = named(function, args)
        calls = [lambda: function(*args)]
        if keywords is not None:
            calls.append(lambda: function(**keywords))
        for call in calls:
            try:
                found.append(call())
            except Exception as error:
                found.append(error)
            self.assertEqual(before, repr(args))
        return found

    def gives(self, wanted, function, *args):
        for result in self.outcomes(function, args):
            if isinstance(result, Exception):
                raise AssertionError(f'{function.__name__}{args!r}') from result
            self.assertTrue(same(wanted, result), f'{function.__name__}{args!r}: {result!r}, not {wanted!r}')

    def fails(self, error, function, *args):
        for result in self.outcomes(function, args):
            self.assertIs(type(result), type(error), f'{function.__name__}{args!r}: {result!r}')
            self.assertEqual(list(vars(error)), list(vars(result)))
            for name, value in vars(error).items():
                self.assertTrue(same(value, getattr(result, name)), f'{function.__name__}{args!r}: {vars(result)}')

    def outcome(self, action):
        """What the action returns, or the error that it raises."""
        try:
            return action()
        except Exception as error:
            return error

    def fails_so(self, error, action):
        result = self.outcome(action)
        self.assertIs(type(error), type(result), repr(result))
        self.assertTrue(same(list(vars(error).items()), list(vars(result).items())), vars(result))

    def is_plain_fraction(self, thing):
        self.assertIs(type(thing), tuple)
        self.assertEqual([int, int], [type(part) for part in thing])
        self.assertGreaterEqual(thing[1], 1)


def spoiled(chance, thing, others=()):
    """The value with something in it exchanged, put in another order, doubled or left out, or as it is."""
    if isinstance(thing, tuple) and thing and chance.random() < 0.75:
        place = chance.randrange(len(thing))
        return thing[:place] + (spoiled(chance, thing[place], others),) + thing[place + 1:]
    ways = [thing, 0, 1, 2, -1, True, False, None, '', 'a', (), [], *others]
    if isinstance(thing, tuple):
        ways += [list(thing), thing[::-1], thing + thing, thing[1:], thing + thing[:1], tuple(sorted(thing, key=repr))]
    return chance.choice(ways)


def random_tree(chance, size, services='abcd', bad=0.4):
    """A tree with so many spans; chance is a random.Random."""
    service = chance.choice(services)
    mark = 1 if chance.random() < bad else 0
    left = size - 1
    trees = []
    while left:
        part = chance.randint(1, left)
        trees.append(random_tree(chance, part, services, bad))
        left -= part
    return (service, mark, tuple(sorted(trees)))


def random_plain(chance, most=4):
    word = chance.choice(['never', 'own', 'own', 'shared', 'shared', 'caller', 'bad', 'late'])
    if word in ('own', 'shared'):
        q = chance.randint(1, most)
        return (word, chance.randint(0, q), q)
    return (word,)


def random_rule(chance, most=4):
    if chance.random() < 0.4:
        return ('or', random_plain(chance, most), random_plain(chance, most))
    return random_plain(chance, most)


def names_in(tree):
    found = {tree[0]}
    for call in tree[2]:
        found |= names_in(call)
    return found


def random_rules(chance, kinds, most=4):
    services = sorted(set().union(*[names_in(kind) for kind in kinds]))
    return tuple((service, random_rule(chance, most)) for service in services)


def random_kinds(chance, many, size, services='abcd'):
    return tuple(sorted({random_tree(chance, chance.randint(1, size), services) for _ in range(many)}))


def setups(seed, many, size=5, kinds=4):
    """So many random kinds and rules, each with a random.Random."""
    chance = random.Random(seed)
    for _ in range(many):
        some = random_kinds(chance, chance.randint(1, kinds), size, chance.choice(['a', 'ab', 'abcd']))
        yield chance, some, random_rules(chance, some)


def questions(chance, kinds, rules, many=4):
    """Some questions, some of which are told."""
    found = [tuple(chance.randint(-9, 9) for _ in kinds) for _ in range(many)]
    for column in oracle.transposed(oracle.chance_rows(kinds, rules))[:many]:
        found.append(tuple(int(entry * 64 * 27 * 27) for entry in column))
    return [tuple(0 for _ in kinds)] + found
