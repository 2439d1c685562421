"""Kinds beside kinds: which one holds which, and by which tree they differ."""

import random
import unittest

from likeboughs.beside import are_alike, holds, parting
from likeboughs.books import Book
from likeboughs.errors import InvalidMatch
from tests.plain import plain_lot, plain_of, plain_order, plain_size, plain_trees, random_books
from tests.samples import A, ANY_RULES, B, SIGNS, asking_book, example_book, grown, short_book

APART = ((0, 1, False), (0, 2, False), (1, 2, False))


class BesideTest(unittest.TestCase):
    def check(self, one, kind, other, other_kind, size):
        """Check the size of the least tree that is of just one of two kinds, None if there is none."""
        told = parting(one, kind, other, other_kind)
        self.assertIs(are_alike(one, kind, other, other_kind), size is None)
        self.assertIs(told is None, size is None)
        if told is not None:
            self.assertEqual(plain_size(told), size)
            self.assertNotEqual(kind in plain_lot(one, told), other_kind in plain_lot(other, told))
        return told

    def check_held(self, one, kind, other, other_kind, forth, back):
        """Check whether each kind holds the other one."""
        self.assertIs(holds(one, kind, other, other_kind), forth)
        self.assertIs(holds(other, other_kind, one, kind), back)
        self.assertIs(are_alike(one, kind, other, other_kind), forth and back)
        self.assertIs(are_alike(other, other_kind, one, kind), forth and back)

    def test_a_book_beside_itself(self):
        for book in [example_book(), short_book(), asking_book(), Book(SIGNS, [])]:
            for kind in book.kinds + ['none']:
                self.check(book, kind, book, kind, None)
                self.check_held(book, kind, book, kind, True, True)
        book = example_book()
        for kind, other, forth, back, size in [
            ('any', 'twin', True, False, 1), ('any', 'full', True, False, 1), ('twin', 'full', False, False, 1),
            ('any', 'none', True, False, 1), ('none', 'twin', False, True, 3),
        ]:
            self.check_held(book, kind, book, other, forth, back)
            self.check(book, kind, book, other, size)

    def test_a_rule_more_and_a_rule_less(self):
        book = example_book()
        more = Book(SIGNS, book.rules + [('twin', 'b', (), ())])
        self.check_held(more, 'twin', book, 'twin', True, False)
        self.check(book, 'twin', more, 'twin', 1)
        self.check(book, 'full', more, 'full', None)
        fewer = Book(SIGNS, book.rules[:1] + book.rules[2:])
        self.check_held(book, 'any', fewer, 'any', True, False)
        self.check(book, 'twin', fewer, 'twin', 3)
        self.check(book, 'full', fewer, 'full', None)
        self.check(book, 'any', Book(SIGNS, book.rules + [('any', 'f', ('twin', 'full'), ((0, 1, True),))]), 'any', None)

    def test_other_asks(self):
        leaves = [('k', 'a', (), ()), ('k', 'b', (), ())]
        books = {asks: Book(SIGNS, leaves + [('k', 'f', ('k', 'k'), asks)]) for asks in [(), ((0, 1, True),), ((0, 1, False),)]}
        free, same, apart = books.values()
        self.check_held(free, 'k', same, 'k', True, False)
        self.check_held(free, 'k', apart, 'k', True, False)
        self.check_held(same, 'k', apart, 'k', False, False)
        for one, other in [(free, same), (free, apart), (same, apart)]:
            self.check(one, 'k', other, 'k', 3)
        both = Book(SIGNS, same.rules + apart.rules)
        self.check_held(both, 'k', free, 'k', True, True)
        self.check(Book(SIGNS, leaves + [('l', 'f', ('k', 'k'), ((0, 1, False), (0, 1, True)))]), 'l', free, 'none', None)

    def test_other_names(self):
        book = example_book()
        for names in [{'twin': 'pair'}, {'any': 'twin', 'twin': 'any'}, {'any': 'aaaaaaaa', 'twin': 'aaaaaaab', 'full': 'z'}]:
            other = book.renamed(names)
            for kind in book.kinds:
                self.check(book, kind, other, names.get(kind, kind), None)
                self.check_held(other, names.get(kind, kind), book, kind, True, True)
                if kind in names and names[kind] in book.kinds:
                    self.assertIs(are_alike(book, kind, other, kind), False)
        self.check(book, 'twin', book.renamed({'any': 'twin', 'twin': 'any'}), 'twin', 1)

    def test_names_of_one_letter_and_of_eight_in_both_books(self):
        for first, second in [('a', 'a'), ('z', 'a'), ('abcdefgh', 'abcdefgh'), ('abcdefgh', 'abcdefg'), ('zzzzzzzz', 'a')]:
            one = Book(SIGNS, [(first, 'a', (), ()), (first, 'f', (first, first), ()), ('up', 'f', (first, first), ())])
            other = Book(SIGNS, [(second, 'b', (), ()), (second, 'f', (second, second), ()), ('up', 'f', (second, second), ())])
            self.check_held(one, first, other, second, False, False)
            self.check(one, first, other, second, 1)
            self.check(one, 'up', other, 'up', 3)
            self.check(one, first, one, first, None)

    def test_kinds_that_no_tree_is_of(self):
        empty = Book(SIGNS, [('k', 'f', ('k', 'k'), ()), ('l', 'f', ('m', 'm'), ((0, 1, False), (0, 1, True)))])
        for kind in ['k', 'l', 'm', 'none']:
            self.check(empty, kind, empty, 'k', None)
            self.check(empty, kind, Book(SIGNS, []), 'k', None)
            self.check_held(example_book(), 'full', empty, kind, True, False)
            self.check(empty, kind, example_book(), 'twin', 3)
        for signs in [{'f': 2}, {'s': 1, 'g': 3}]:
            one = Book(signs, [('k', sign, ('k',) * signs[sign], ()) for sign in signs])
            self.check(one, 'k', Book(signs, []), 'k', None)

    def test_signs_in_another_order_and_unlike_signs(self):
        rules = example_book().rules
        other = Book({'f': 2, 'b': 0, 'a': 0}, rules)
        self.check(example_book(), 'twin', other, 'twin', None)
        self.check_held(example_book(), 'any', other, 'twin', True, False)
        for signs in [{'a': 0, 'b': 0}, {'a': 0, 'b': 0, 'f': 2, 'c': 0}, {'a': 0, 'b': 0, 'g': 2}, {'a': 0, 'b': 0, 'f': 3}]:
            for call in [holds, parting, are_alike]:
                for first, second in [(example_book(), Book(signs, [])), (Book(signs, []), example_book())]:
                    with self.assertRaises(InvalidMatch):
                        call(first, 'any', second, 'any')

    def test_two_and_three_different_trees_of_one_lot(self):
        signs = {'a': 0, 's': 1, 'f': 2, 'g': 3}
        chain = [('k', 'a', (), ()), ('k', 's', ('k',), ())]
        both = chain + [('l', 'f', ('k', 'k'), ()), ('l', 'g', ('k', 'k', 'k'), ())]
        same = chain + [('l', 'f', ('k', 'k'), ()), ('l', 'g', ('k', 'k', 'k'), ((0, 1, True),)),
                        ('l', 'g', ('k', 'k', 'k'), ((0, 2, True),)), ('l', 'g', ('k', 'k', 'k'), ((1, 2, True),))]
        told = self.check(Book(signs, both), 'l', Book(signs, same), 'l', 7)
        self.assertEqual(sorted(plain_size(tree) for tree in told[1:]), [1, 2, 3])
        self.check(Book(signs, same + [('l', 'g', ('k', 'k', 'k'), APART)]), 'l', Book(signs, both), 'l', None)
        one = chain + [('l', 'f', ('k', 'k'), ())]
        other = chain + [('l', 'f', ('k', 'k'), ((0, 1, True),))]
        self.check(Book(signs, one), 'l', Book(signs, other), 'l', 4)
        # One above the other: two trees that differ, each with two brothers that differ.
        up = [('m', 'f', ('l', 'l'), ((0, 1, False),))]
        leaves = [('k', 'a', (), ()), ('k', 's', ('p',), ()), ('p', 'a', (), ())]
        apart = Book(signs, leaves + [('l', 'f', ('k', 'k'), ((0, 1, False),))] + up)
        self.check(apart, 'm', Book(signs, []), 'm', 1 + 4 + 4)
        self.check(Book(signs, chain + [('l', 'g', ('k', 'k', 'k'), APART), ('m', 'g', ('l', 'l', 'l'), APART)]), 'm',
                   Book(signs, []), 'm', 1 + 7 + 7 + 7)

    def test_great_trees(self):
        kinds = ['ka', 'kb', 'kc', 'kd', 'ke', 'kf', 'kg']
        rules = [(kinds[at + 1], 'f', (kinds[at], kinds[at]), ((0, 1, True),)) for at in range(6)]
        one = Book({'a': 0, 's': 1, 'f': 2}, [('ka', 's', ('z',), ()), ('z', 'a', (), ())] + rules)
        other = Book({'a': 0, 's': 1, 'f': 2}, [('ka', 's', ('z',), ()), ('z', 'a', (), ())] + rules[:-1])
        told = self.check(one, 'kg', other, 'kg', 3 * 64 - 1)
        self.assertEqual(told, grown(('s', A), lambda tree: ('f', tree, tree), 6))

    def test_two_thousand_rules(self):
        one = Book(SIGNS, ANY_RULES + [('twin', 'f', ('any', 'any'), ((0, 1, True),))] * 1997)
        other = Book(SIGNS, ANY_RULES + [('odd', 'f', ('any', 'any'), ((0, 1, False),))] * 1997)
        self.check_held(one, 'twin', other, 'odd', False, False)
        self.check(one, 'twin', other, 'odd', 3)
        self.check(one, 'any', other, 'any', None)

    def test_order_of_rules_and_rules_that_stand_twice(self):
        for book, _ in random_books(111, 40):
            other = Book(book.signs, book.rules[::-1] + book.rules)
            for kind in book.kinds:
                self.check(book, kind, other, kind, None)

    def test_beside_a_search(self):
        chance = random.Random(112)
        books = {}
        for book, _ in random_books(112, 90):
            books.setdefault(tuple(book.signs.items()), []).append(book)
        for row in books.values():
            for one in row:
                other = chance.choice(row)
                if chance.random() < 0.5:
                    # A book that differs by one rule is more like the first one.
                    at = chance.randrange(len(one))
                    other = Book(one.signs, one.rules[:at] + one.rules[at + 1:])
                trees = plain_order([tree for size in plain_trees(one.signs, 5).values() for tree in size])
                of_one, of_other = plain_of(one, trees), plain_of(other, trees)
                for kind in of_one:
                    other_kind = kind if kind in of_other else 'none'
                    with self.subTest(one=one.rules, other=other.rules, kind=kind):
                        apart = [tree for tree in trees if (tree in of_one[kind]) != (tree in of_other[other_kind])]
                        if apart:
                            self.check(one, kind, other, other_kind, plain_size(apart[0]))
                        elif not are_alike(one, kind, other, other_kind):
                            size = plain_size(parting(one, kind, other, other_kind))
                            self.assertGreater(size, 5)
                            self.check(one, kind, other, other_kind, size)
                        if any(tree not in of_one[kind] for tree in of_other[other_kind]):
                            self.assertIs(holds(one, kind, other, other_kind), False)
                        self.check_held(one, kind, other, other_kind, holds(one, kind, other, other_kind),
                                        holds(other, other_kind, one, kind))

    def test_leaves(self):
        signs = {leaf: 0 for leaf in 'abcdefgh'}
        one = Book(signs, [('k', leaf, (), ()) for leaf in 'abcdefg'])
        self.check(one, 'k', Book(signs, one.rules + [('k', 'h', (), ())]), 'k', 1)
        self.assertEqual(parting(one, 'k', Book(signs, one.rules + [('k', 'h', (), ())]), 'k'), ('h',))
        self.assertEqual(parting(example_book(), 'full', example_book(), 'any'), B)


if __name__ == '__main__':
    unittest.main()
