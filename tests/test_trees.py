"""[15], [16], with [3]: spans, paths, and trees that are made and pruned."""

import random

from tests import oracle
from tests.support import ALONE, BIG, FINE, KINDS, WRONG, Case, random_kinds, random_tree, strange_values
from thinspans.errors import NotUsable
from thinspans.kinds import is_tree
from thinspans.trees import pruned, services_of, size_of, spans_of, tree_at, tree_of

LEAF, BAD_LEAF = ('b', 0, ()), ('b', 1, ())
WIDE = ('a', 0, (LEAF, LEAF, BAD_LEAF))
TALL = ('a', 1, (('b', 0, (('c', 0, (BAD_LEAF,)),)), ('b', 1, ()), ('c', 0, (LEAF, LEAF))))
PATH = NotUsable('path', -1)


def trees():
    chance = random.Random(15)
    return [ALONE, FINE, WRONG, WIDE, TALL] + [random_tree(chance, size, 'ab') for size in range(1, 7) for _ in range(12)]


def paths_of(tree):
    return [path for path, _, _ in oracle.all_paths(tree)]


class Trees(Case):

    def no_paths(self, tree):
        """Values that are no path of the tree."""
        found = [[], [0], (-1,), (True,), (False,), (None,), ('0',), ((),), ((0,),), (0, True), (0, -1), (BIG,), 0]
        for path in paths_of(tree):
            found += [list(path), path + (None,), path + (True,), path + (-1,), path + (len(tree_at(tree, path)[2]),)]
            if path and path[-1] < 2:
                found.append(path[:-1] + (bool(path[-1]),))
            if path:
                found.append(path[:-1] + (path[-1] - 100,))
        return found + strange_values()

    def test_example(self):
        self.gives(ALONE, pruned, FINE, (0,))
        self.gives((((), 'front', 0), ((0,), 'pay', 0)), spans_of, FINE)
        self.assertEqual((ALONE, WRONG), tree_of('pay', 0, WRONG, ALONE)[2])

    def test_spans(self):
        self.gives((((), 'front', 0),), spans_of, ALONE)
        self.gives((((), 'a', 0), ((0,), 'b', 0), ((1,), 'b', 0), ((2,), 'b', 1)), spans_of, WIDE)
        self.gives((((), 'a', 1), ((0,), 'b', 0), ((0, 0), 'c', 0), ((0, 0, 0), 'b', 1), ((1,), 'b', 1), ((2,), 'c', 0),
                    ((2, 0), 'b', 0), ((2, 1), 'b', 0)), spans_of, TALL)
        for tree in trees():
            wanted = tuple(oracle.all_paths(tree))
            self.gives(wanted, spans_of, tree)
            self.assertEqual(sorted(wanted), list(wanted))
            self.gives(len(wanted), size_of, tree)

    def test_tree_at(self):
        for tree in trees():
            for path, service, mark in oracle.all_paths(tree):
                wanted = tree
                for place in path:
                    wanted = wanted[2][place]
                self.gives(wanted, tree_at, tree, path)
                self.assertEqual((service, mark), wanted[:2])

    def test_no_paths(self):
        for tree in (ALONE, FINE, WIDE, TALL):
            for thing in self.no_paths(tree):
                self.fails(PATH, tree_at, tree, thing)
                self.fails(PATH, pruned, tree, thing)

    def test_services(self):
        self.gives(('front', 'pay'), services_of, KINDS)
        self.gives(('front',), services_of, (ALONE,))
        self.gives(('a', 'b', 'c'), services_of, (TALL,))
        chance = random.Random(151)
        for _ in range(20):
            kinds = random_kinds(chance, 3, 5)
            wanted = {service for kind in kinds for _, service, _ in oracle.all_paths(kind)}
            self.gives(tuple(sorted(wanted)), services_of, kinds)

    def test_deep_trees(self):
        tree = LEAF
        for _ in range(150):
            tree = tree_of('a', 0, tree)
        self.assertEqual(151, size_of(tree))
        self.assertEqual(('a', 'b'), services_of((tree,)))
        self.assertEqual(LEAF, tree_at(tree, (0,) * 150))
        self.assertEqual(150, size_of(pruned(tree, (0,) * 150)))
        self.assertEqual((0,) * 150, spans_of(tree)[-1][0])


class MadeTrees(Case):

    def test_made(self):
        self.gives(('a', 0, ()), tree_of, 'a', 0)
        self.gives(('abcdefgh', 1, ()), tree_of, 'abcdefgh', 1)
        self.gives(('a', 0, (LEAF, LEAF, BAD_LEAF)), tree_of, 'a', 0, BAD_LEAF, LEAF, LEAF)
        self.gives(('a', 1, (ALONE, ALONE)), tree_of, 'a', 1, ALONE, ALONE)

    def test_made_in_any_order(self):
        chance = random.Random(16)
        for tree in trees():
            calls = list(tree[2])
            chance.shuffle(calls)
            self.gives(tree, tree_of, tree[0], tree[1], *calls)

    def test_wrong_values(self):
        for thing in strange_values():
            if not (isinstance(thing, str) and thing.isalpha() and thing.islower() and len(thing) < 9):
                self.fails(NotUsable('service', -1), tree_of, thing, 0)
                self.fails(NotUsable('service', -1), tree_of, thing, 2, None)
            self.fails(NotUsable('mark', -1), tree_of, 'a', thing)
            self.fails(NotUsable('mark', -1), tree_of, 'a', thing, None)
            self.fails(NotUsable('tree', 0), tree_of, 'a', 0, thing)
            self.fails(NotUsable('tree', 1), tree_of, 'a', 0, ALONE, thing, thing)
            self.fails(NotUsable('tree', 2), tree_of, 'a', 0, WRONG, ALONE, thing, FINE)
        self.fails(NotUsable('mark', -1), tree_of, 'a', 2)

    def test_calls_that_are_no_trees(self):
        for thing in [('b', True, ()), ('b', 2, ()), ('b', 0, (BAD_LEAF, LEAF)), ['b', 0, ()], ('b', 0, []), KINDS]:
            self.fails(NotUsable('tree', 1), tree_of, 'a', 0, LEAF, thing, None)


class PrunedTrees(Case):

    def test_pruned(self):
        self.gives(('a', 0, (LEAF, BAD_LEAF)), pruned, WIDE, (0,))
        self.gives(('a', 0, (LEAF, BAD_LEAF)), pruned, WIDE, (1,))
        self.gives(('a', 0, (LEAF, LEAF)), pruned, WIDE, (2,))
        self.gives(('a', 1, (('b', 0, ()), ('b', 1, ()), ('c', 0, (LEAF, LEAF)))), pruned, TALL, (0, 0))

    def test_sorted_again(self):
        tree = ('a', 0, (('b', 0, (LEAF,)), ('b', 0, (('c', 0, ()),))))
        self.gives(('a', 0, (('b', 0, ()), ('b', 0, (LEAF,)))), pruned, tree, (1, 0))
        deep = ('a', 0, (tree, ('a', 0, (('b', 0, (LEAF,)), ('b', 0, (LEAF,))))))
        deep = tree_of('a', 0, *deep[2])
        for path in paths_of(deep):
            if path:
                self.assertTrue(is_tree(pruned(deep, path)))

    def test_the_spans_that_stay(self):
        for tree in trees():
            for path in paths_of(tree):
                if path == ():
                    self.fails(PATH, pruned, tree, path)
                    continue
                gone = set(one for one in paths_of(tree) if one[:len(path)] == path)
                everything = [(service, mark) for one, service, mark in oracle.all_paths(tree) if one not in gone]
                result = pruned(tree, path)
                self.assertTrue(is_tree(result))
                self.assertEqual(sorted(everything), sorted(span[1:] for span in oracle.all_paths(result)))
                # If all that stays is kept, its sight is what is left of the trace.
                self.gives(oracle.kept_sight(tree, set(paths_of(tree)) - gone)[0][1], pruned, tree, path)
