"""The bounds of the document, just at them and one beyond."""

import unittest

from likeboughs.books import Book
from likeboughs.counting import count, listed, place_of, tree_at
from likeboughs.cuts import of_trees
from likeboughs.errors import InvalidNumber, InvalidRules, InvalidTrees, ParseError, TooMany
from likeboughs.finite import all_trees
from likeboughs.nets import is_net, tree_of
from likeboughs.plain import plain
from likeboughs.texts import format_book, parse_book
from likeboughs.trees import depth, size, trees_of_size
from tests.samples import A, ANY_RULES, SIGNS, example_book, grown

LEAVES = 'abcdexyz'


def rows_book(many):
    """A book of a kind with so many trees of one size: rows of ten signs for figures, cut off at a number."""
    signs = {'a': 0, 's': 1, 't': 1, 'f': 2}
    # Chains of s and t, told by the bits of numbers below many, each ten signs long.
    rules = []
    for bit in range(10):
        rules += [('all' + 'abcdefghij'[bit], sign, ('all' + 'abcdefghij'[bit - 1] if bit else 'leaf',), ()) for sign in 'st']
        low = 'less' + 'abcdefghij'[bit]
        before = 'less' + 'abcdefghij'[bit - 1] if bit else 'lessz'
        if many >> bit & 1:
            rules += [(low, 's', ('all' + 'abcdefghij'[bit - 1] if bit else 'leaf',), ()), (low, 't', (before,), ())]
        else:
            rules += [(low, 's', (before,), ())]
    return Book(signs, rules + [('leaf', 'a', (), ())])


class BoundsTest(unittest.TestCase):
    def test_a_thousand_trees_of_a_size(self):
        self.assertEqual(len(trees_of_size({**{leaf: 0 for leaf in 'abcde'}, 's': 1, 't': 1}, 1)), 5)
        for many in [0, 1, 999, 1000, 1001, 1002]:
            book = rows_book(many)
            self.assertEqual(count(book, 'lessj', 11), many)
            if many > 1000:
                with self.assertRaises(TooMany):
                    listed(book, 'lessj', 11)
                with self.assertRaises(TooMany):
                    tree_at(book, 'lessj', 11, 0)
                with self.assertRaises(TooMany):
                    place_of(book, 'lessj', grown(A, lambda tree: ('s', tree), 10))
            else:
                told = listed(book, 'lessj', 11)
                self.assertEqual(len(told), many)
                if many:
                    self.assertEqual([tree_at(book, 'lessj', 11, many - 1), place_of(book, 'lessj', told[-1])], [told[-1], many - 1])
            with self.assertRaises(InvalidNumber):
                tree_at(book, 'lessj', 11, many)

    def test_three_hundred_trees_of_a_kind(self):
        for many in [0, 1, 299, 300, 301, 302]:
            book = rows_book(many)
            if many > 300:
                with self.assertRaises(TooMany):
                    all_trees(book, 'lessj')
            else:
                told = all_trees(book, 'lessj')
                self.assertEqual([len(told), told], [many, listed(book, 'lessj', 11)])

    def test_three_hundred_places_of_a_net(self):
        # Node at has at + 1 places, the two above the chain have 99 and 78 + at: each tree is forty deep.
        chain = [('a',)] + [('s', at) for at in range(37)]
        signs = {'a': 0, 's': 1, 'f': 2, 'g': 3}
        for at in [0, 21, 22, 23, 24, 25, 37]:
            net = chain + [('g', 37, 37, 21), ('g', 37, 37, at), ('g', 38, 38, 39)]
            if 277 + at > 300:
                with self.assertRaises(TooMany):
                    tree_of(signs, net)
            else:
                tree = tree_of(signs, net)
                self.assertEqual([size(signs, tree), depth(signs, tree)], [277 + at, 40])
        with self.assertRaises(TooMany):
            tree_of(signs, chain + [('s', 37), ('s', 38), ('s', 39)])

    def test_two_hundred_nodes(self):
        for many, wanted in [(0, False), (1, True), (199, True), (200, True), (201, False)]:
            self.assertIs(is_net({'a': 0}, [('a',)] * many), wanted)

    def test_forty_trees_told_apart(self):
        signs = {**{leaf: 0 for leaf in LEAVES[:5]}, 'x': 2, 'z': 2, 's': 1}
        leaves = [('k', leaf, (), ()) for leaf in LEAVES[:5]] + [('j', 'a', (), ()), ('j', 'b', (), ())]
        rules = leaves + [('l', 'x', ('k', 'k'), ()), ('l', 'z', ('j', 'k'), ()), ('m', 'z', ('l', 'l'), ((0, 1, False),))]
        # 5 leaves, 25 trees of x, ten of z.
        told, _ = plain(Book(signs, rules), 'm')
        self.assertLessEqual(len(told), 2000)
        # One tree of s more, of which the leaf is not alone in its lot.
        more = [('l', 's', ('i',), ()), ('i', 'x', ('o', 'o'), ()), ('o', 'c', (), ())]
        with self.assertRaises(TooMany):
            plain(Book(signs, rules + [('l', 's', ('j',), ())]), 'm')
        # c and the tree of x are alone in their lots: two fewer, and one more.
        self.assertIs(type(plain(Book(signs, rules + more), 'm')), tuple)

    def test_two_thousand_rules(self):
        rules = ANY_RULES * 666 + ANY_RULES[:2]
        for more, line in [([], None), (ANY_RULES[2:], 2001), (ANY_RULES, 2001)]:
            self.assertEqual(len(rules), 2000)
            if line is None:
                book = Book(SIGNS, rules + more)
                self.assertEqual([len(book), parse_book(format_book(book))], [2000, book])
            else:
                with self.assertRaises(InvalidRules):
                    Book(SIGNS, rules + more)
                with self.assertRaises(InvalidRules):
                    Book(SIGNS, rules) | Book(SIGNS, [('k', 'a', (), ())])
                with self.assertRaises(ParseError) as caught:
                    parse_book(format_book(Book(SIGNS, rules)) + '\nany = a' * len(more))
                self.assertEqual(caught.exception.line, line)
        self.assertEqual(len(Book(SIGNS, rules[1:]) | Book(SIGNS, [('k', 'a', (), ())])), 2000)

    def test_twenty_trees_of_a_list(self):
        trees = trees_of_size(SIGNS, 5)
        self.assertEqual(len(of_trees(SIGNS, (trees * 2)[:20])), 2)
        with self.assertRaises(InvalidTrees):
            of_trees(SIGNS, (trees * 2)[:21])

    def test_sizes(self):
        for places in [1, 40]:
            self.assertIs(type(count(example_book(), 'any', places)), int)
        for places in [0, 41]:
            with self.assertRaises(InvalidNumber):
                count(example_book(), 'any', places)
            with self.assertRaises(InvalidNumber):
                trees_of_size(SIGNS, places)


if __name__ == '__main__':
    unittest.main()
