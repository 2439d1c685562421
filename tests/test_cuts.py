"""Kinds cut at a size, and kinds of listed trees."""

import unittest

from likeboughs.books import Book
from likeboughs.counting import count
from likeboughs.cuts import cut, of_trees
from likeboughs.errors import InvalidNumber, InvalidTrees
from likeboughs.finite import all_trees, is_finite, ring
from likeboughs.readings import is_of, is_reading, lot_of, reading
from tests.plain import plain_lot, plain_of, plain_order, plain_size, plain_trees, random_books
from tests.samples import (
    A, ALL_SIGNS, ANY_RULES, B, SIGNS, asking_book, example_book, grown, odd_objects, short_book, wide_tree,
)

FAA, FAB, FBA = ('f', A, A), ('f', A, B), ('f', B, A)


class CutTest(unittest.TestCase):
    def check(self, book, kind, most):
        """Check all cuts of a kind, tree by tree, with all trees up to a size."""
        trees = [tree for row in plain_trees(book.signs, most).values() for tree in row]
        of_kind = plain_of(book, trees).get(kind, [])
        for size in range(1, 8):
            told = cut(book, kind, size)
            self.assertEqual([type(told), len(told), type(told[0]), type(told[1])], [tuple, 2, Book, str])
            self.assertEqual(told[0].signs, book.signs)
            self.assertLessEqual(len(told[0]), 2000)
            self.assertIs(is_finite(*told), True)
            known = {}
            wanted = [tree for tree in of_kind if plain_size(tree) <= size]
            self.assertEqual([tree for tree in trees if told[1] in plain_lot(told[0], tree, known)], wanted)

    def test_kinds_of_the_samples(self):
        for book, most in [(example_book(), 7), (short_book(), 7), (asking_book(), 6), (Book(SIGNS, []), 5)]:
            for kind in book.kinds + ['none']:
                self.check(book, kind, most)

    def test_trees_of_size_seven_and_beyond(self):
        book = example_book()
        for kind in ['any', 'twin', 'full']:
            for size, trees in plain_trees(SIGNS, 9).items():
                told, name = cut(book, kind, 7)
                for tree in trees[::7]:
                    self.assertIs(is_of(told, name, tree), size <= 7 and is_of(book, kind, tree))
        chain = Book({'a': 0, 's': 1}, [('k', 'a', (), ()), ('k', 's', ('k',), ())])
        for size in range(1, 8):
            told = cut(chain, 'k', size)
            trees = [grown(A, lambda tree: ('s', tree), laps) for laps in range(9)]
            self.assertEqual([is_of(*told, tree) for tree in trees], [laps < size for laps in range(9)])
            self.assertEqual([count(*told, number) for number in range(1, 10)], [int(number <= size) for number in range(1, 10)])

    def test_asks_are_kept(self):
        signs = {'a': 0, 's': 1, 'f': 2, 'g': 3}
        chain = [('k', 'a', (), ()), ('k', 's', ('k',), ())]
        for sign, asks in [
            ('f', ((0, 1, True),)), ('f', ((0, 1, False),)), ('f', ((0, 1, False), (0, 1, True))), ('g', ((0, 1, True),)),
            ('g', ((0, 1, True), (1, 2, True))), ('g', ((0, 1, False), (0, 2, False), (1, 2, False))), ('g', ((0, 2, True), (1, 2, False))),
        ]:
            rules = chain + [('l', sign, ('k',) * signs[sign], asks), ('l', 's', ('l',), ())]
            self.check(Book(signs, rules), 'l', 6)

    def test_sizes_that_are_none(self):
        for size in [0, 8, -1, True, False, 10 ** 39, '3', None, (3,), [3], 3.0] + odd_objects():
            with self.subTest(size=str(size)[:60]):
                for kind in ['twin', 'none']:
                    with self.assertRaises(InvalidNumber):
                        cut(example_book(), kind, size)

    def test_many_rules(self):
        self.check(Book(SIGNS, ANY_RULES + [('twin', 'f', ('any', 'any'), ((0, 1, True),))] * 1997), 'twin', 5)
        # Some hundred kinds with the same trees, each with rules of its own.
        kinds = ['k' + one + two for one in 'abcdefghij' for two in 'abcdefghij']
        rules = [(kind, sign, (), ()) for kind in kinds for sign in 'ab']
        rules += [(kind, 'f', (kinds[at - 1], kinds[at - other]), ((0, 1, False),))
                  for at, kind in enumerate(kinds) for other in range(2, 16)]
        self.check(Book(SIGNS, rules), 'kab', 5)

    def test_random_books(self):
        for book, _ in random_books(131, 54):
            with self.subTest(rules=book.rules):
                for kind in book.kinds:
                    self.check(book, kind, 7 if len(book.signs) == 2 else 6)

    def test_handed_back(self):
        for book, _ in random_books(132, 27):
            for kind in book.kinds:
                told, name = cut(book, kind, 5)
                for tree in plain_trees(book.signs, 4)[4][:20]:
                    lot = lot_of(told, tree)
                    self.assertIs(is_of(book, kind, tree), name in lot)
                    self.assertIs(is_reading(told, name, tree, reading(told, name, tree)), name in lot)
                self.assertEqual(told.renamed({}), told)
                self.assertEqual(len(told | told), len(told))
                for size in range(1, 7):
                    self.assertEqual(count(told, name, size), count(book, kind, size) if size <= 5 else 0)


class OfTreesTest(unittest.TestCase):
    def check(self, signs, trees, others=()):
        """Check the kind of listed trees beside other trees."""
        told = of_trees(signs, trees)
        self.assertEqual([type(told), len(told), type(told[0]), type(told[1])], [tuple, 2, Book, str])
        self.assertEqual(told[0].signs, signs)
        self.assertLessEqual(len(told[0]), 2000)
        for tree in [*trees, *others]:
            self.assertIs(is_of(*told, tree), tree in trees)
        self.assertEqual(all_trees(*told), plain_order(set(trees)))
        self.assertEqual([is_finite(*told), ring(*told)], [True, None])
        return told

    def test_lists(self):
        others = [tree for row in plain_trees(SIGNS, 5).values() for tree in row]
        for trees in [[], [A], [B], [A, A], [FAB], [FAB, A, FAB], [FAA, FAB, A], [('f', FAB, FAB)], [('f', FAB, FBA), FAB, B],
                      [B, FAB, B], others[:20], others[5:25], [A] * 20, [('f', FAA, ('f', FAA, FAA)), FAA]]:
            self.check(SIGNS, trees, others)
        self.check({'f': 2}, [])
        self.check({'a': 0}, [A])
        self.check(ALL_SIGNS, [('g', A, ('s', A), ('f', A, A)), ('g', A, A, A), ('s', ('s', A))],
                   [('g', A, ('f', A, A), ('s', A)), A, ('s', A), ('g', A, ('s', A), ('s', A))])

    def test_great_trees(self):
        trees = [wide_tree(places) for places in range(301, 341, 2)]
        self.check(SIGNS, trees, [wide_tree(299), wide_tree(301, (B, A)), A])
        twins = [grown(leaf, lambda tree: ('f', tree, tree), 11) for leaf in [A, B]]
        self.check(SIGNS, twins, [('f', twins[0], twins[1])[1], ('f', twins[0][1], twins[1][1])])
        self.check(SIGNS, [wide_tree(4999), grown(A, lambda tree: ('f', B, tree), 39)], [wide_tree(4997)])
        combs = [grown(A, lambda tree: ('f', tree, ('s', tree) if at % 2 else B), 8 + at) for at in range(3)]
        signs = {'a': 0, 'b': 0, 's': 1, 'f': 2}
        self.check(signs, combs, [grown(A, lambda tree: ('f', tree, B), 7)])

    def test_twenty_trees_and_one_more(self):
        trees = plain_trees(SIGNS, 7)[7]
        told = self.check(SIGNS, trees[:20], trees[20:])
        self.assertEqual(len(all_trees(*told)), 20)
        for wrong in [trees[:21], [A] * 21, trees]:
            with self.assertRaises(InvalidTrees):
                of_trees(SIGNS, wrong)

    def test_objects_that_are_no_lists_of_trees(self):
        for wrong in odd_objects() + [(A, B), (), None, A, 'a', [A, None], [A, 'a'], [('f', A)], [[A]], [('c',)], {A: A}, [A, ['a']]]:
            if wrong not in ([], [A]):
                with self.subTest(wrong=str(wrong)[:60]):
                    with self.assertRaises(InvalidTrees):
                        of_trees(SIGNS, wrong)
                    with self.assertRaises(InvalidTrees):
                        of_trees(SIGNS, [A, wrong] if wrong != A else [A, (A,)])

    def test_random_trees(self):
        for signs, most in [(SIGNS, 7), ({'a': 0, 's': 1, 'g': 3}, 7), ({'a': 0, 'b': 0, 'g': 3}, 7)]:
            trees = [tree for row in plain_trees(signs, most).values() for tree in row]
            for step in [3, 7, 11, 17]:
                self.check(signs, trees[step::step][:20], trees[:60])

    def test_handed_back(self):
        trees = [wide_tree(41), FAA, FAB, wide_tree(39, (B, A))]
        told, kind = of_trees(SIGNS, trees)
        for tree in trees:
            self.assertIn(kind, lot_of(told, tree))
            self.assertIs(is_reading(told, kind, tree, reading(told, kind, tree)), True)
        for name in told.kinds:
            self.assertEqual(len(all_trees(told, name)), 4 if name == kind else 1)


if __name__ == '__main__':
    unittest.main()
