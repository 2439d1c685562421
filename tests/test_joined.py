"""Kinds joined, common, without and opposite, tree by tree."""

import random
import unittest
from itertools import product

from likeboughs.beside import are_alike, holds
from likeboughs.books import Book
from likeboughs.counting import count
from likeboughs.errors import InvalidMatch
from likeboughs.joined import common, joined, opposite, without
from likeboughs.made import is_made
from likeboughs.readings import is_of
from likeboughs.tables import counts
from tests.plain import plain_of, plain_trees, random_books
from tests.samples import A, ANY_RULES, B, SIGNS, asking_book, example_book, grown, short_book, wide_tree

CALLS = [(joined, lambda one, other: one or other), (common, lambda one, other: one and other),
         (without, lambda one, other: one and not other)]


def trees_up_to(signs, most):
    return [tree for row in plain_trees(signs, most).values() for tree in row]


class JoinedTest(unittest.TestCase):
    def check_book(self, signs, told):
        """Check that a book and a kind are told, and give them back."""
        self.assertEqual([type(told), len(told), type(told[0]), type(told[1])], [tuple, 2, Book, str])
        book, kind = told
        self.assertEqual(book.signs, signs)
        self.assertLessEqual(len(book), 2000)
        self.assertEqual(Book(book.signs, book.rules), book)
        self.assertRegex(kind, '^[a-z]{1,8}$')
        return told

    def check(self, one, kind, other, other_kind, trees):
        """Check the books told of two kinds beside the kinds that they come from, tree by tree."""
        lists = [plain_of(book, trees).get(name, []) for book, name in [(one, kind), (other, other_kind)]]
        first, second = [set(found) for found in lists]
        for call, rule in CALLS:
            book, name = self.check_book(one.signs, call(one, kind, other, other_kind))
            wanted = [tree for tree in trees if rule(tree in first, tree in second)]
            self.assertEqual(plain_of(book, trees).get(name, []), wanted)

    def check_opposite(self, book, kind, trees):
        of_kind = set(plain_of(book, trees).get(kind, []))
        other, name = self.check_book(book.signs, opposite(book, kind))
        self.assertEqual(plain_of(other, trees).get(name, []), [tree for tree in trees if tree not in of_kind])
        again, again_name = self.check_book(book.signs, opposite(other, name))
        self.assertIs(are_alike(again, again_name, book, kind), True)
        self.assertIs(is_made(*common(book, kind, other, name)), False)

    def test_kinds_of_the_samples(self):
        trees = trees_up_to(SIGNS, 7)
        books = [example_book(), short_book(), Book(SIGNS, [])]
        pairs = [(book, kind) for book in books for kind in book.kinds + ['none']]
        for (one, kind), (other, other_kind) in product(pairs, pairs):
            self.check(one, kind, other, other_kind, trees)
        for book, kind in pairs:
            self.check_opposite(book, kind, trees)
        book = asking_book()
        # All kinds together have more lots than are promised: so those of few are taken.
        few = Book(book.signs, [rule for rule in book.rules if rule[0] in ['any', 'same', 'twin']])
        for kind in few.kinds + ['none']:
            self.check_opposite(few, kind, trees_up_to(few.signs, 5))
            self.check(few, kind, few, 'any', trees_up_to(few.signs, 5))

    def test_greater_trees_with_equal_parts(self):
        book = example_book()
        untwin = opposite(book, 'twin')
        parts = [A, B, ('f', A, A), ('f', A, B), wide_tree(99), wide_tree(98), grown(A, lambda tree: ('f', tree, tree), 6)]
        trees = [('f', one, other) for one, other in product(parts, parts)]
        trees += [('f', one, other) for one, other in product(trees[::5], trees[::3])]
        for tree in trees:
            self.assertIs(is_of(*untwin, tree), tree[1] != tree[2])
        for call, rule in CALLS:
            told = call(book, 'twin', book, 'full')
            for tree in trees:
                self.assertIs(is_of(*told, tree), rule(is_of(book, 'twin', tree), is_of(book, 'full', tree)))
        deep = grown(A, lambda tree: ('f', tree, B), 39)
        self.assertIs(is_of(*untwin, deep), True)
        self.assertIs(is_of(*joined(book, 'twin', book, 'any'), wide_tree(4999)), True)
        self.assertIs(is_of(*without(book, 'any', book, 'twin'), wide_tree(4999)), True)

    def test_names_of_eight_letters_in_both_books(self):
        trees = trees_up_to(SIGNS, 5)
        names = {'any': 'aaaaaaaa', 'twin': 'aaaaaaab', 'full': 'zzzzzzzz'}
        one = example_book().renamed(names)
        other = short_book().renamed({'leaf': 'aaaaaaaa', 'pair': 'zzzzzzzz'})
        for kind in one.kinds:
            for other_kind in other.kinds:
                self.check(one, kind, other, other_kind, trees)
            self.check_opposite(one, kind, trees)
        # Kinds that are called like those that the package might make up.
        for names in [{'any': 'a', 'twin': 'b', 'full': 'c'}, {'any': 'd', 'twin': 'a', 'full': 'e'}]:
            one = example_book().renamed(names)
            for kind in one.kinds:
                self.check(one, kind, one, 'a', trees)
                self.check_opposite(one, kind, trees)

    def test_kinds_with_no_tree_and_kinds_of_all_trees(self):
        trees = trees_up_to(SIGNS, 5)
        whole = Book(SIGNS, ANY_RULES)
        for book in [Book(SIGNS, []), Book(SIGNS, [('any', 'f', ('any', 'any'), ())]), whole]:
            for kind in ['any', 'none']:
                self.check_opposite(book, kind, trees)
                self.check(book, kind, whole, 'any', trees)
                self.check(whole, 'any', book, kind, trees)
        self.assertIs(is_made(*opposite(whole, 'any')), False)
        self.assertIs(are_alike(*opposite(whole, 'none'), whole, 'any'), True)
        for signs in [{'f': 2}, {'s': 1, 'g': 3}]:
            book = Book(signs, [('k', sign, ('k',) * signs[sign], ()) for sign in signs])
            self.check_opposite(book, 'k', [])
            self.check(book, 'k', Book(signs, []), 'k', [])
        leaves = {leaf: 0 for leaf in 'abcdefgh'}
        book = Book(leaves, [('k', leaf, (), ()) for leaf in 'abc'])
        self.check_opposite(book, 'k', [(leaf,) for leaf in leaves])
        self.check(book, 'k', Book(leaves, [('k', leaf, (), ()) for leaf in 'cde']), 'k', [(leaf,) for leaf in leaves])

    def test_trees_of_no_kind_beneath(self):
        # The trees that are of no kind are opposite, too, and all that stand above them.
        book = Book(SIGNS, [('k', 'f', ('leaf', 'leaf'), ((0, 1, True),)), ('leaf', 'a', (), ())])
        self.check_opposite(book, 'k', trees_up_to(SIGNS, 7))
        self.check_opposite(book, 'leaf', trees_up_to(SIGNS, 7))
        signs = {'a': 0, 'b': 0, 's': 1, 'g': 3}
        book = Book(signs, [('k', 'g', ('leaf', 'leaf', 'leaf'), ((0, 2, False),)), ('leaf', 'a', (), ()), ('leaf', 's', ('leaf',), ())])
        self.check_opposite(book, 'k', trees_up_to(signs, 6))

    def test_three_brothers(self):
        signs = {'a': 0, 'b': 0, 'g': 3}
        leaves = [('k', 'a', (), ()), ('k', 'b', (), ()), ('k', 'g', ('k', 'k', 'k'), ())]
        some = [(), ((0, 1, True),), ((0, 2, False),), ((0, 1, True), (1, 2, True)), ((0, 1, False), (0, 2, False), (1, 2, False)),
                ((0, 1, False), (1, 2, True))]
        trees = trees_up_to(signs, 7)
        for asks in some:
            one = Book(signs, leaves + [('l', 'g', ('k', 'k', 'k'), asks)])
            self.check_opposite(one, 'l', trees)
            for others in some[::2]:
                other = Book(signs, leaves[:2] + [('l', 'g', ('k', 'k', 'k'), others), ('l', 'a', (), ())])
                self.check(one, 'l', other, 'l', trees)

    def test_lots_that_make_no_difference(self):
        # All that is joined is any: three rules do.
        book = example_book()
        told, kind = self.check_book(SIGNS, joined(book, 'any', book, 'twin'))
        self.assertEqual([len(told), counts(told)], [3, {(kind,): 4}])
        told, kind = self.check_book(SIGNS, common(book, 'any', book, 'any'))
        self.assertEqual(len(told), 3)
        # Beneath f trees of p and of q are as good as each other, but one of each is not as good as two of one.
        signs = {'a': 0, 'b': 0, 's': 1, 'f': 2, 'g': 3}
        rules = [('p', 'a', (), ()), ('q', 'b', (), ()), ('r', 'f', ('p', 'q'), ()), ('r', 'f', ('q', 'p'), ())]
        more = [('p', 's', ('p',), ()), ('q', 's', ('q',), ()), ('u', 'f', ('p', 'p'), ()), ('u', 'f', ('q', 'q'), ()),
                ('r', 'g', ('p', 'p', 'q'), ()), ('r', 'g', ('q', 'q', 'p'), ()), ('r', 's', ('r',), ())]
        trees = trees_up_to(signs, 5)
        for book in [Book(signs, rules), Book(signs, rules + more[:2]), Book(signs, rules + more)]:
            for kind in ['p', 'q', 'r', 'u']:
                self.check_opposite(book, kind, trees)
                for other in ['p', 'r', 'u']:
                    self.check(book, kind, book, other, trees)

    def test_many_rules(self):
        book = Book(SIGNS, ANY_RULES + [('twin', 'f', ('any', 'any'), ((0, 1, True),))] * 1997)
        self.check(book, 'twin', book, 'any', trees_up_to(SIGNS, 5))
        self.check_opposite(book, 'twin', trees_up_to(SIGNS, 5))
        # Seven lots, seven signs of two brothers: each step has a rule of its own.
        signs = {'a': 0, **{sign: 2 for sign in 'fghijkl'}}
        names = ['ka', 'kb', 'kc', 'kd', 'ke', 'kf', 'kg']
        rules = [('ka', 'a', (), ())]
        for at, sign in enumerate('fghijkl'):
            rules += [(names[(3 * one + 5 * other + at) % 7], sign, (names[one], names[other]), ())
                      for one, other in product(range(7), repeat=2)]
        book = Book(signs, rules)
        self.assertEqual(len(counts(book)), 7)
        self.check_opposite(book, 'kc', trees_up_to(signs, 3))
        self.check(book, 'kc', book, 'kd', trees_up_to(signs, 3))

    def test_unlike_signs(self):
        for call in [joined, common, without]:
            for signs in [{'a': 0, 'b': 0}, {'a': 0, 'b': 0, 'f': 3}, {'a': 0, 'b': 0, 'f': 2, 's': 1}]:
                with self.assertRaises(InvalidMatch):
                    call(example_book(), 'any', Book(signs, []), 'any')
            other = Book({'f': 2, 'b': 0, 'a': 0}, short_book().rules)
            told, kind = call(example_book(), 'any', other, 'leaf')
            self.assertEqual([told.signs, is_of(told, kind, B)], [SIGNS, call is not without])

    def test_beside_the_long_way(self):
        chance = random.Random(121)
        books = {}
        for book, _ in random_books(121, 54):
            books.setdefault(tuple(book.signs.items()), []).append(book)
        for row in books.values():
            trees = trees_up_to(row[0].signs, 5)
            for one in row:
                other = chance.choice(row)
                with self.subTest(one=one.rules, other=other.rules):
                    for kind in one.kinds + ['none']:
                        self.check(one, kind, other, chance.choice(other.kinds), trees)
                        self.check_opposite(one, kind, trees)

    def test_handed_back(self):
        for book, _ in random_books(122, 27):
            for kind in book.kinds:
                other = book.kinds[0]
                both, one = common(book, kind, book, other), joined(book, kind, book, other)
                rest, none = without(book, kind, book, other), opposite(book, kind)
                self.assertIs(holds(book, kind, *both), True)
                self.assertIs(holds(*one, book, kind), True)
                self.assertIs(are_alike(*joined(*both, *rest), book, kind), True)
                self.assertIs(is_made(*common(*both, *rest)), False)
                self.assertIs(are_alike(*opposite(*one), *common(*none, *opposite(book, other))), True)
                for size in range(1, 8):
                    self.assertEqual(count(*one, size) + count(*both, size), count(book, kind, size) + count(book, other, size))
                    self.assertEqual(count(*rest, size), count(book, kind, size) - count(*both, size))


if __name__ == '__main__':
    unittest.main()
