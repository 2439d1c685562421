"""Kinds that are made, and by how small a tree."""

import unittest

from likeboughs.books import Book
from likeboughs.made import is_made, least, least_size
from tests.plain import plain_lot, plain_of, plain_size, plain_trees, random_books
from tests.samples import A, ALL_SIGNS, ANY_RULES, B, SIGNS, asking_book, example_book, short_book

APART = ((0, 1, False), (0, 2, False), (1, 2, False))


class MadeTest(unittest.TestCase):
    def check(self, book, kind, size):
        """Check the least size of a kind that is told, None if no tree is of the kind."""
        tree = least(book, kind)
        self.assertIs(is_made(book, kind), size is not None)
        self.assertEqual(least_size(book, kind), size)
        if size is None:
            self.assertIs(tree, None)
        else:
            self.assertEqual(plain_size(tree), size)
            self.assertIn(kind, plain_lot(book, tree))

    def test_kinds_of_the_samples(self):
        for kind, size in [('any', 1), ('twin', 3), ('full', 1), ('none', None), ('a', None)]:
            self.check(example_book(), kind, size)
        for kind, size in [('leaf', 1), ('pair', 3), ('twin', None)]:
            self.check(short_book(), kind, size)
        for kind, size in [('any', 1), ('same', 4), ('some', 5), ('apart', 7), ('twin', 3), ('odd', 4), ('never', None),
                           ('over', 4), ('beneath', 8), ('lost', None), ('deep', None), ('nothing', None)]:
            self.check(asking_book(), kind, size)
        self.assertEqual([least(short_book(), 'pair') in [('f', A, B), ('f', B, A)], least(example_book(), 'full')], [True, A])

    def test_books_without_rules_and_signs_without_a_leaf(self):
        for book in [Book(SIGNS, []), Book({'f': 2}, []), Book({'a': 0}, [])]:
            self.check(book, 'k', None)
        for signs in [{'s': 1}, {'f': 2}, {'g': 3}, {'s': 1, 'f': 2, 'g': 3}]:
            self.check(Book(signs, [('k', sign, ('k',) * signs[sign], ()) for sign in signs]), 'k', None)

    def test_kinds_that_are_told_but_not_made(self):
        book = Book(SIGNS, [
            ('leaf', 'a', (), ()), ('odd', 'f', ('leaf', 'leaf'), ((0, 1, False),)), ('up', 'f', ('odd', 'leaf'), ()),
            ('both', 'f', ('leaf', 'leaf'), ((0, 1, False), (0, 1, True))), ('ring', 'f', ('ring', 'leaf'), ()),
            ('far', 'f', ('leaf', 'other'), ()),
        ])
        for kind in ['odd', 'up', 'both', 'ring', 'far', 'other']:
            self.check(book, kind, None)
        self.check(book, 'leaf', 1)

    def test_two_and_three_different_trees_of_one_lot(self):
        signs = {'a': 0, 's': 1, 'f': 2, 'g': 3}
        chain = [('k', 'a', (), ()), ('k', 's', ('k',), ())]
        self.check(Book(signs, chain + [('l', 'f', ('k', 'k'), ((0, 1, False),))]), 'l', 1 + 1 + 2)
        self.check(Book(signs, chain + [('l', 'g', ('k', 'k', 'k'), APART)]), 'l', 1 + 1 + 2 + 3)
        # Three different trees, each of which needs three different ones.
        book = Book(signs, chain + [('l', 'g', ('k', 'k', 'k'), APART), ('m', 'g', ('l', 'l', 'l'), APART)])
        self.check(book, 'm', 1 + 7 + 7 + 7)
        # There are just two trees beneath, so none of three that differ.
        leaves = [('k', 'a', (), ()), ('k', 'b', (), ())]
        book = Book({'a': 0, 'b': 0, 'f': 2, 'g': 3}, leaves + [
            ('l', 'f', ('k', 'k'), ((0, 1, False),)), ('m', 'g', ('k', 'k', 'k'), APART),
            ('n', 'f', ('l', 'l'), ((0, 1, False),)), ('o', 'f', ('n', 'n'), ((0, 1, False),)), ('p', 'g', ('n', 'n', 'n'), APART),
        ])
        for kind, size in [('l', 3), ('m', None), ('n', 7), ('o', 15), ('p', None)]:
            self.check(book, kind, size)

    def test_one_tree_twice(self):
        signs = {'a': 0, 's': 1, 'f': 2, 'g': 3}
        chain = [('k', 'a', (), ()), ('k', 's', ('k',), ())]
        self.check(Book(signs, chain + [('l', 'f', ('k', 'k'), ((0, 1, True),))]), 'l', 3)
        # A small tree is worth more where it stands twice.
        book = Book(signs, chain + [('l', 'g', ('k', 'k', 'k'), ((0, 1, False), (1, 2, True)))])
        self.check(book, 'l', 1 + 2 + 1 + 1)
        # The same tree has to be of both kinds.
        rules = [('ta', 'a', (), ()), ('tb', 's', ('ta',), ()), ('ta', 's', ('tb',), ())]
        self.check(Book(signs, rules + [('o', 'f', ('ta', 'tb'), ((0, 1, True),))]), 'o', None)
        # Five signs s lead to tb, which goes round in two, and to rc, which goes round in three.
        rules += [('ra', 'a', (), ()), ('rb', 's', ('ra',), ()), ('rc', 's', ('rb',), ()), ('ra', 's', ('rc',), ())]
        self.check(Book(signs, rules + [('o', 'f', ('tb', 'rc'), ((0, 1, True),))]), 'o', 1 + 6 + 6)

    def test_the_next_smallest_trees_of_several_lots(self):
        # c has trees of 1, 5, 6, 7, 8 places. In g(x, y, y) x and y are two of them.
        book = Book({'a': 0, 'b': 0, 'u': 1, 'v': 1, 'g': 3}, [
            ('p', 'a', (), ()), ('c', 'b', (), ()), ('r', 'g', ('p', 'p', 'p'), ()), ('c', 'u', ('r',), ()),
            ('r', 'v', ('r',), ()), ('t', 'g', ('c', 'c', 'c'), ((0, 1, False), (1, 2, True))),
            ('w', 'g', ('t', 't', 't'), APART),
        ])
        self.check(book, 'c', 1)
        self.check(book, 't', 8)
        self.check(book, 'w', 1 + 8 + 9 + 10)

    def test_great_trees(self):
        kinds = ['ka', 'kb', 'kc', 'kd', 'ke', 'kf', 'kg']
        rules = [(kinds[at + 1], 'f', (kinds[at], kinds[at]), ((0, 1, True),)) for at in range(6)]
        book = Book({'a': 0, 's': 1, 'f': 2}, [('ka', 'a', (), ()), ('ka', 's', ('ka',), ())] + rules)
        for at, kind in enumerate(kinds):
            self.check(book, kind, 2 ** (at + 1) - 1)
        # Each lot has two trees only, the second one much greater.
        rules = [('k', 'a', (), ()), ('k', 'g', ('h', 'h', 'h'), ()), ('h', 'b', (), ()), ('l', 'f', ('k', 'k'), ((0, 1, False),)),
                 ('m', 'f', ('l', 'l'), ((0, 1, False),)), ('n', 'f', ('m', 'm'), ((0, 1, False),)),
                 ('o', 'g', ('n', 'n', 'n'), ((0, 1, True), (0, 2, True)))]
        book = Book({'a': 0, 'b': 0, 'f': 2, 'g': 3}, rules)
        self.check(book, 'o', 1 + 3 * (1 + 2 * (1 + 2 * 6)))

    def test_two_thousand_rules(self):
        book = Book(SIGNS, ANY_RULES + [('twin', 'f', ('any', 'any'), ((0, 1, True),))] * 1997)
        self.check(book, 'twin', 3)
        kinds = ['k' + one + two for one in 'abcdefghijklmnopqrstuvwxyz' for two in 'abcdefghijklmnopqrstuvwxyz'][:500]
        book = Book(ALL_SIGNS, [rule for kind in kinds for rule in [
            (kind, 'a', (), ()), (kind, 's', (kinds[0],), ()), ('up' + kind, 'f', (kind, kinds[-1]), ((0, 1, False),)),
            ('no' + kind, 'g', (kind, 'up' + kind, kind), ((0, 1, True),)),
        ]])
        self.assertEqual(len(book), 2000)
        self.check(book, kinds[-1], 1)
        self.check(book, 'up' + kinds[7], 4)
        self.check(book, 'no' + kinds[7], None)

    def test_beside_a_search(self):
        for book, held in random_books(61, 90):
            with self.subTest(rules=book.rules):
                trees = [tree for row in plain_trees(book.signs, 5).values() for tree in row]
                of = plain_of(book, trees)
                for kind in of:
                    if of[kind]:
                        self.check(book, kind, plain_size(of[kind][0]))
                    elif any(kind in lot for lot in held):
                        self.assertGreater(least_size(book, kind), 5)
                        self.check(book, kind, least_size(book, kind))
                    else:
                        self.check(book, kind, None)


if __name__ == '__main__':
    unittest.main()
