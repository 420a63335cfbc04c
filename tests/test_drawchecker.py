"""[32], with [4], [5] and [22] to [24]: lets_draws."""

from fractions import Fraction

from tests import oracle
from tests.support import ALONE, BIG, FINE, RULES, WRONG, Case, random_rules, random_tree, setups, spoiled, strange_values
from tests.test_drawpapers import HALF, NO_MARKS, PAY, TOP, ZERO, all_kept_sights, kept_by_draws
from tests.test_spreadchecker import is_exact, is_pair
from thinspans.drawchecker import lets_draws
from thinspans.drawpapers import draws_for
from thinspans.errors import InvalidPaper

NONES = (ZERO, ZERO)
PAPER = (ZERO, (NONES, NONES))
NO_FRACTIONS = [0, 1, None, '', (), (0,), (0, 0), (0, 2), (2, 4), (1, -2), (0, True), (False, 1), (True, 2), (1, 2, 1), [0, 1], [1, 2], ('0', 1), ((0, 1),)]
NO_DRAWS = [(1, 1), (-1, 2), (3, 2), (BIG, 1), (-BIG, BIG + 1), (2, 1), (BIG + 1, BIG)]


def invalid(word, at=-1):
    return InvalidPaper(word, at)


def is_true_sight(thing):
    """Whether it has no bool in it, so that it is not merely equal to a sight."""
    return type(thing) is not bool and (type(thing) is not tuple or all(is_true_sight(part) for part in thing))


def verdict(tree, rules, sight, thing):
    """What lets_draws must say of the paper, by the words of [32]: (word, at), or the kept paths."""
    if not is_pair(thing) or not is_exact(thing[0]) or type(thing[1]) is not tuple:
        return 'shape', -1
    draw, pairs = thing
    if not all(is_pair(pair) and all(map(is_exact, pair)) for pair in pairs):
        return 'shape', -1
    if len(pairs) != len(oracle.all_paths(tree)):
        return 'many', -1
    if not 0 <= Fraction(*draw) < 1:
        return 'draw', -1
    for k, pair in enumerate(pairs):
        if not all(0 <= Fraction(*own) < 1 for own in pair):
            return 'own', k
    kept = kept_by_draws(tree, rules, draw, pairs)
    if not is_true_sight(sight) or sight != oracle.kept_sight(tree, kept):
        return 'sight', -1
    return tuple(sorted(kept))


class LetsDraws(Case):

    def says(self, wanted, *args):
        if wanted and isinstance(wanted[0], str):
            self.fails(invalid(*wanted), lets_draws, *args)
        else:
            self.gives(wanted, lets_draws, *args)

    def bad(self, word, at, thing, sight=TOP, tree=FINE, rules=RULES):
        self.assertEqual((word, at), verdict(tree, rules, sight, thing))
        self.fails(invalid(word, at), lets_draws, tree, rules, sight, thing)

    def test_example(self):
        self.gives(((),), lets_draws, FINE, RULES, TOP, (ZERO, (NONES, NONES)))

    def test_accepted(self):
        late = ((999, 1000), (HALF, HALF))
        self.gives((), lets_draws, FINE, RULES, (), (ZERO, ((HALF, ZERO), NONES)))
        self.gives((), lets_draws, FINE, RULES, (), ((999, 1000), (late[1], late[1])))
        self.gives(((), (0,)), lets_draws, WRONG, RULES, (('top', WRONG),), PAPER)
        self.gives(((0,),), lets_draws, WRONG, RULES, PAY, (ZERO, ((HALF, ZERO), (HALF, HALF))))
        # Just below, and equal.
        self.gives(((),), lets_draws, ALONE, (('front', ('own', BIG, 2 * BIG + 1)),), TOP, (ZERO, (((BIG, 2 * BIG + 2), ZERO),)))
        self.gives((), lets_draws, ALONE, (('front', ('own', 3, 6)),), (), (ZERO, ((HALF, ZERO),)))
        self.gives((), lets_draws, ALONE, (('front', ('shared', 3, 6)),), (), (HALF, (NONES,)))
        self.gives(((),), lets_draws, ALONE, (('front', ('shared', 3, 6)),), TOP, ((BIG, 2 * BIG + 1), (NONES,)))
        self.assertEqual(((),), lets_draws(tree=FINE, rules=RULES, sight=TOP, thing=PAPER))

    def test_shape(self):
        for thing in strange_values() + [
                0, (), (ZERO,), (ZERO, (NONES, NONES), 0), [ZERO, (NONES, NONES)], (ZERO, [NONES, NONES]), (ZERO, NONES), (ZERO, 0), (ZERO, ZERO),
                (ZERO, (NONES, ZERO)), (ZERO, (NONES, (ZERO,))), (ZERO, (NONES, (ZERO, ZERO, ZERO))), (ZERO, (NONES, [ZERO, ZERO])),
                (ZERO, (NONES, None)), ((NONES, NONES), ZERO), (ZERO, (NONES, NONES, None)), (ZERO, (None,))]:
            self.bad('shape', -1, thing)
        for thing in NO_FRACTIONS:
            for paper in [(thing, (NONES, NONES)), (ZERO, ((thing, ZERO), NONES)), (ZERO, (NONES, (ZERO, thing))), (thing, ()),
                          ((2, 1), (NONES, (thing, thing)))]:
                self.bad('shape', -1, paper)

    def test_many(self):
        for pairs in [(), (NONES,), (NONES,) * 3, (NONES,) * 9]:
            self.bad('many', -1, (ZERO, pairs))
            # Ahead of the draws and of the sight.
            self.bad('many', -1, ((-1, 1), pairs))
            self.bad('many', -1, ((1, 1), pairs + (((2, 1), ZERO),) * 3))
            self.bad('many', -1, (ZERO, pairs), None)
        self.bad('many', -1, PAPER, TOP, ALONE)

    def test_draw(self):
        for draw in NO_DRAWS:
            self.bad('draw', -1, (draw, (NONES, NONES)))
            # Ahead of the draws of the spans and of the sight.
            self.bad('draw', -1, (draw, (((1, 1), ZERO), NONES)))
            self.bad('draw', -1, (draw, (NONES, NONES)), PAY)

    def test_own(self):
        for own in NO_DRAWS:
            for pair in [(own, ZERO), (ZERO, own), (own, own), (own, (1, 1))]:
                self.bad('own', 0, (ZERO, (pair, NONES)))
                self.bad('own', 1, (ZERO, (NONES, pair)))
                self.bad('own', 0, (ZERO, (pair, pair)))
                # Ahead of the sight; also where no rule has an "own".
                self.bad('own', 1, (HALF, (NONES, pair)), None)
                for rules in [(('front', ('never',)), ('pay', ('bad',))), (('front', ('shared', 1, 2)), ('pay', ('caller',)))]:
                    self.bad('own', 0, (ZERO, (pair, pair)), (), FINE, rules)

    def test_sight(self):
        for sight in strange_values() + NO_MARKS + [0, [], list(TOP), PAY, (('top', FINE),), (('top', WRONG),), (TOP[0], TOP[0]), TOP[0], ()]:
            self.bad('sight', -1, PAPER, sight)
        for sight in NO_MARKS:
            self.bad('sight', -1, PAPER, sight, WRONG)
            self.bad('sight', -1, (ZERO, ((HALF, ZERO), NONES)), sight, WRONG)
        self.bad('sight', -1, (ZERO, ((HALF, ZERO), NONES)))
        self.bad('sight', -1, PAPER, (('lost', (('pay', 1, ()),)), ('top', ALONE)), WRONG)

    def test_spoiled_papers(self):
        counts = {}
        for chance, kinds, rules in setups(322, 60):
            tree = chance.choice(kinds)
            sights = sorted(oracle.sight_chances(tree, rules))
            sight = chance.choice(sights)
            paper = draws_for(tree, rules, sight)
            self.says(verdict(tree, rules, sight, paper), tree, rules, sight, paper)
            for _ in range(30):
                thing = spoiled(chance, paper, [HALF, (1, 1), (-1, 3), (11, 12), (0, 1), NONES, (HALF, HALF)])
                other = chance.choice([sight, sight, chance.choice(sights), spoiled(chance, sight)])
                wanted = verdict(tree, rules, other, thing)
                counts[wanted[0] if wanted and isinstance(wanted[0], str) else ''] = 1
                self.says(wanted, tree, rules, other, thing)
        self.assertEqual(['', 'draw', 'many', 'own', 'shape', 'sight'], sorted(counts))

    def test_random_draws(self):
        """Whatever draws there are, they lead to what the rules say."""
        for chance, kinds, _ in setups(323, 60):
            tree = random_tree(chance, chance.randint(1, 6), 'abc')
            rules = random_rules(chance, (tree,))
            for _ in range(6):
                draws = [(p, q) if p else ZERO for p, q in [chance.choice([(0, 1), (1, 2), (1, 3), (2, 3), (3, 4), (1, 4), (99, 100)]) for _ in range(13)]]
                thing = (draws[0], tuple(zip(draws[1:], draws[::-1]))[:len(oracle.all_paths(tree))])
                for sight in chance.sample(all_kept_sights(tree), 1) + [oracle.kept_sight(tree, kept_by_draws(tree, rules, *thing))]:
                    self.says(verdict(tree, rules, sight, thing), tree, rules, sight, thing)
