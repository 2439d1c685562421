"""Signs and trees, their size, depth, order and parts."""

import copy
import unittest
from itertools import permutations

from likeboughs import trees
from likeboughs.errors import InvalidSigns, InvalidTree
from likeboughs.trees import depth, is_less, is_signs, is_tree, parts, size, trees_of_size
from tests.plain import plain_depth, plain_size
from tests.samples import A, ALL_SIGNS, B, ODD_NAMES, SIGNS, nested, odd_objects


def plain_parts(tree):
    return {tree}.union(*[plain_parts(brother) for brother in tree[1:]])


def full(levels, leaf=A):
    return leaf if levels == 1 else ('f', full(levels - 1, leaf), full(levels - 1, leaf))


def comb(levels, leaf=A):
    return nested_in(leaf, lambda tree: ('f', tree, B), levels - 1)


def nested_in(tree, make, laps):
    for _ in range(laps):
        tree = make(tree)
    return tree


SOME_TREES = [
    A, B, ('f', A, A), ('f', A, B), ('f', B, A), ('f', ('f', B, A), A), ('f', A, ('f', A, A)),
    ('f', ('f', A, B), ('f', A, B)), full(5), full(4, B), comb(40), ('f', full(3), comb(7)),
]
WIDE_TREES = [
    ('s', A), ('s', ('s', A)), ('g', A, A, A), ('g', ('s', A), ('f', A, A), A), ('f', ('s', A), ('g', A, A, A)),
    nested_in(A, lambda tree: ('s', tree), 39), nested_in(A, lambda tree: ('g', tree, A, tree), 6),
]


class SignsTest(unittest.TestCase):
    def test_signs(self):
        for signs in [
            SIGNS, ALL_SIGNS, {'a': 0}, {'f': 2}, {'abcdefgh': 3}, {'z': 1, 'a': 3}, {'zzzzzzzz': 0},
            {letter: number % 4 for number, letter in enumerate('abcdefgh')}, {'az': 2, 'type': 1},
        ]:
            with self.subTest(signs=signs):
                self.assertIs(is_signs(signs), True)

    def test_numbers_of_signs(self):
        self.assertIs(is_signs({}), False)
        self.assertIs(is_signs({letter: 0 for letter in 'abcdefgh'}), True)
        self.assertIs(is_signs({letter: 0 for letter in 'abcdefghi'}), False)

    def test_names_that_are_none(self):
        for name in ODD_NAMES:
            if not isinstance(name, (list, dict)):
                with self.subTest(name=name):
                    self.assertIs(is_signs({name: 0}), False)
                    self.assertIs(is_signs({'a': 0, name: 0}), False)

    def test_numbers_that_are_none(self):
        for number in [-1, 4, 10 ** 39, True, False, None, '0', '', (), (0,), [], [0], {}, {'a': 0}]:
            with self.subTest(number=number):
                self.assertIs(is_signs({'a': number}), False)
                self.assertIs(is_signs({'a': 0, 'f': number}), False)
                self.assertIs(is_signs({'a': number, 'f': 2}), False)

    def test_other_objects(self):
        for thing in odd_objects() + ['a', 0, 1, [], [('a', 0)], (('a', 0),), A]:
            with self.subTest(thing=str(thing)[:60]):
                self.assertIs(is_signs(thing), False)


class IsTreeTest(unittest.TestCase):
    def test_trees(self):
        for tree in SOME_TREES:
            self.assertIs(is_tree(SIGNS, tree), True)
        for tree in WIDE_TREES:
            self.assertIs(is_tree(ALL_SIGNS, tree), True)

    def test_no_trees(self):
        for thing in odd_objects():
            with self.subTest(thing=str(thing)[:60]):
                self.assertIs(is_tree(SIGNS, thing), False)
                self.assertIs(is_tree(SIGNS, ('f', A, thing)), False)
                self.assertIs(is_tree(SIGNS, ('f', ('f', thing, B), A)), False)

    def test_brothers_too_many_or_too_few(self):
        for thing in [
            ('a', A), ('s',), ('s', A, A), ('f',), ('f', A), ('f', A, A, A), ('g', A, A), ('g', A, A, A, A),
            ('s', ('a', A)), ('g', A, A, ('f', A)), ('f', ('s',), A),
        ]:
            with self.subTest(thing=thing):
                self.assertIs(is_tree(ALL_SIGNS, thing), False)

    def test_lists_and_bare_signs(self):
        for thing in ['a', ['a'], ('f', 'a', 'b'), ('f', ['a'], A), ['f', A, A], ('f', (A, A)), ('s', 'a'), ('c',)]:
            with self.subTest(thing=thing):
                self.assertIs(is_tree({**SIGNS, 's': 1}, thing), False)

    def test_trees_of_other_signs(self):
        self.assertIs(is_tree({'a': 0}, B), False)
        self.assertIs(is_tree({'a': 1}, A), False)
        self.assertIs(is_tree({'f': 2}, ('f', A, A)), False)
        self.assertIs(is_tree({'a': 0, 'f': 1}, ('f', A)), True)

    def test_deep_objects(self):
        self.assertIs(is_tree(ALL_SIGNS, nested_in(A, lambda tree: ('s', tree), 60)), True)
        self.assertIs(is_tree(ALL_SIGNS, nested_in(B, lambda tree: ('s', tree), 60)), False)
        self.assertIs(is_tree(ALL_SIGNS, nested(lambda thing: (thing,), 60)), False)

    def test_invalid_signs(self):
        for signs in odd_objects():
            for thing in [A, None, signs]:
                with self.assertRaises(InvalidSigns):
                    is_tree(signs, thing)


class MeasuresTest(unittest.TestCase):
    def test_size_and_depth(self):
        for signs, some in [(SIGNS, SOME_TREES), (ALL_SIGNS, WIDE_TREES)]:
            for tree in some:
                with self.subTest(tree=str(tree)[:60]):
                    self.assertEqual(size(signs, tree), plain_size(tree))
                    self.assertEqual(depth(signs, tree), plain_depth(tree))

    def test_told_sizes_and_depths(self):
        self.assertEqual([size(SIGNS, A), depth(SIGNS, A)], [1, 1])
        self.assertEqual([size(SIGNS, comb(40)), depth(SIGNS, comb(40))], [79, 40])
        self.assertEqual([size(SIGNS, full(12)), depth(SIGNS, full(12))], [4095, 12])
        self.assertEqual([size(ALL_SIGNS, ('g', A, ('s', A), A)), depth(ALL_SIGNS, ('g', A, ('s', A), A))], [5, 3])
        self.assertIs(type(size(SIGNS, A)), int)
        self.assertIs(type(depth(SIGNS, A)), int)

    def test_parts(self):
        for signs, some in [(SIGNS, SOME_TREES), (ALL_SIGNS, WIDE_TREES)]:
            for tree in some:
                with self.subTest(tree=str(tree)[:60]):
                    told = parts(signs, tree)
                    self.assertIs(type(told), list)
                    self.assertEqual(len(told), len(set(told)))
                    self.assertEqual(set(told), plain_parts(tree))
                    self.assertEqual(told, sorted(told, key=lambda part: (plain_size(part), part)))
                    self.assertEqual(told[-1], tree)

    def test_told_parts(self):
        self.assertEqual(parts(SIGNS, A), [A])
        self.assertEqual(parts(SIGNS, ('f', B, B)), [B, ('f', B, B)])
        # A small tree with a late sign comes ahead of a greater one with an early sign.
        self.assertEqual(
            parts({'z': 0, 'b': 1, 'a': 2}, ('a', ('b', ('b', ('z',))), ('z',))),
            [('z',), ('b', ('z',)), ('b', ('b', ('z',))), ('a', ('b', ('b', ('z',))), ('z',))])
        # Of one size, brothers are compared as Python does, whatever their own sizes.
        big, small = ('f', ('f', A, A), B), ('f', B, ('f', A, A))
        self.assertEqual(parts(SIGNS, ('f', big, small)), [A, B, ('f', A, A), small, big, ('f', big, small)])

    def test_parts_with_other_signs_and_the_same_brothers(self):
        signs = {'a': 0, 'f': 2, 'e': 2, 's': 1, 't': 1}
        low, high = ('e', A, A), ('f', A, A)
        self.assertEqual(parts(signs, ('f', high, low)), [A, low, high, ('f', high, low)])
        low, high = ('s', A), ('t', A)
        self.assertEqual(parts(signs, ('f', high, low)), [A, low, high, ('f', high, low)])

    def test_parts_of_great_trees(self):
        self.assertEqual(parts(SIGNS, full(12)), [full(levels) for levels in range(1, 13)])
        rows = trees_of_size({'a': 0, 'f': 2}, 15)
        tree = nested_in(rows[0], lambda tree: ('f', tree, rows[(plain_size(tree) // 16) % len(rows)]), 39)
        self.assertEqual(set(parts(SIGNS, tree)), plain_parts(tree))

    def test_parts_are_new(self):
        tree = ('f', A, B)
        told = parts(SIGNS, tree)
        told.append(None)
        self.assertEqual(parts(SIGNS, tree), [A, B, tree])

    def test_is_less(self):
        ascending = []
        for number in range(1, 8):
            ascending.extend(trees_of_size(SIGNS, number))
        for one in range(0, len(ascending), 3):
            for other in range(0, len(ascending), 2):
                self.assertIs(is_less(SIGNS, ascending[one], ascending[other]), one < other)

    def test_order_of_sizes_comes_first(self):
        signs = {'z': 0, 'y': 0, 's': 1, 'a': 2}
        self.assertIs(is_less(signs, ('z',), ('s', ('y',))), True)
        self.assertIs(is_less(signs, ('s', ('y',)), ('z',)), False)
        self.assertIs(is_less(signs, ('a', ('y',), ('y',)), ('s', ('s', ('y',)))), True)
        self.assertIs(is_less(signs, ('s', ('z',)), ('s', ('z',))), False)
        # Python's order, not that of trees, decides among brothers of trees of one size.
        self.assertIs(is_less(signs, ('a', ('s', ('y',)), ('y',)), ('a', ('y',), ('s', ('y',)))), True)
        for one, other in permutations([('z',), ('y',), ('s', ('y',)), ('a', ('z',), ('y',))], 2):
            self.assertIs(is_less(signs, one, other), not is_less(signs, other, one))


class ErrorsTest(unittest.TestCase):
    def test_invalid_signs(self):
        for signs in odd_objects():
            for tree in [A, None, signs]:
                for call in [size, depth, parts]:
                    with self.assertRaises(InvalidSigns):
                        call(signs, tree)
                for other in [A, None]:
                    with self.assertRaises(InvalidSigns):
                        is_less(signs, tree, other)

    def test_invalid_tree(self):
        for tree in odd_objects() + [('c',), ('a', A), ('f', A, ('c',))]:
            with self.subTest(tree=str(tree)[:60]):
                for call in [size, depth, parts]:
                    with self.assertRaises(InvalidTree):
                        call(SIGNS, tree)
                for one, other in [(tree, A), (A, tree), (tree, tree), (tree, None)]:
                    with self.assertRaises(InvalidTree):
                        is_less(SIGNS, one, other)


class CallsTest(unittest.TestCase):
    def test_arguments_stay(self):
        tree = ('f', ('f', A, B), A)
        for call in [is_tree, size, depth, parts]:
            signs = copy.deepcopy(SIGNS)
            call(signs, tree)
            self.assertEqual(list(signs.items()), list(SIGNS.items()))
        signs = copy.deepcopy(SIGNS)
        is_less(signs, tree, A)
        is_signs(signs)
        self.assertEqual(list(signs.items()), list(SIGNS.items()))
        thing = [1, {'a': [()]}]
        is_tree(signs, thing)
        is_signs(thing)
        self.assertEqual(thing, [1, {'a': [()]}])

    def test_parameters_by_name(self):
        tree = ('f', A, B)
        self.assertIs(is_signs(thing=SIGNS), True)
        self.assertIs(is_tree(thing=tree, signs=SIGNS), True)
        self.assertEqual(size(tree=tree, signs=SIGNS), 3)
        self.assertEqual(depth(SIGNS, tree=tree), 2)
        self.assertEqual(depth(tree=tree, signs=SIGNS), 2)
        self.assertEqual(parts(tree=tree, signs=SIGNS), [A, B, tree])
        self.assertIs(is_less(other=tree, one=A, signs=SIGNS), True)
        self.assertIs(is_less(SIGNS, other=A, one=tree), False)
        self.assertEqual(trees_of_size(size=1, signs=SIGNS), [A, B])

    def test_defined_here(self):
        for name in ['is_signs', 'is_tree', 'size', 'depth', 'parts', 'is_less', 'trees_of_size']:
            self.assertEqual(getattr(trees, name).__module__, 'likeboughs.trees')


if __name__ == '__main__':
    unittest.main()
