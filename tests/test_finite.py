"""Kinds with finitely many trees, and lists of all of them."""

import unittest

from likeboughs.books import Book
from likeboughs.counting import count
from likeboughs.errors import TooMany
from likeboughs.finite import all_trees, is_finite, ring
from likeboughs.trees import is_less
from tests.plain import plain_of, plain_order, plain_size, plain_trees, random_books
from tests.samples import A, ANY_RULES, B, SIGNS, asking_book, example_book, grown, part_book, short_book

LEAVES = 'abcdefgh'


class FiniteTest(unittest.TestCase):
    def check(self, book, kind, trees):
        """Check all trees of a kind that are told, or how many there are, or None where there is no end of them."""
        self.assertIs(is_finite(book, kind), trees is not None)
        self.assertIs(ring(book, kind) is None, trees is not None)
        if trees is None or isinstance(trees, int) and trees > 300:
            with self.assertRaises(TooMany):
                all_trees(book, kind)
        else:
            told = all_trees(book, kind)
            self.assertEqual(len(told) if isinstance(trees, int) else told, trees)
            self.assertTrue(all(is_less(book.signs, told[at], told[at + 1]) for at in range(len(told) - 1)))

    def test_kinds_of_the_samples(self):
        for kind, trees in [('any', None), ('twin', None), ('full', None), ('none', [])]:
            self.check(example_book(), kind, trees)
        for kind, trees in [('leaf', [A, B]), ('pair', [('f', A, B), ('f', B, A)]), ('twin', [])]:
            self.check(short_book(), kind, trees)
        for kind in asking_book().kinds:
            self.check(asking_book(), kind, [] if kind in ['never', 'lost', 'deep', 'nothing'] else None)

    def test_books_without_rules_and_signs_without_a_leaf(self):
        for book in [Book(SIGNS, []), Book({'f': 2}, []), Book({'f': 2}, [('k', 'f', ('k', 'k'), ())]),
                     Book({'a': 0, 's': 1}, [('k', 's', ('k',), ())])]:
            self.check(book, 'k', [])

    def test_three_hundred_and_one_more(self):
        signs = {**{leaf: 0 for leaf in LEAVES[:5]}, 'f': 2, 'g': 3, 's': 1}
        leaves = [('k', leaf, (), ()) for leaf in LEAVES[:5]]
        # 5 ** 3 twice, 5 ** 2 twice: these are three hundred.
        rules = leaves + [('l', 'g', ('k', 'k', 'k'), ()), ('l', 's', ('m',), ()), ('m', 'g', ('k', 'k', 'k'), ()),
                          ('l', 'f', ('k', 'k'), ()), ('l', 's', ('n',), ()), ('n', 'f', ('k', 'k'), ())]
        self.check(Book(signs, rules), 'l', 300)
        self.check(Book(signs, rules + [('l', 'a', (), ())]), 'l', 301)
        self.check(Book(signs, rules + [('l', 'f', ('k', 'k'), ((0, 1, True),))]), 'l', 300)
        # The same where rules lead from a kind back to it, but no trees do.
        for rule in [('l', 's', ('l',), ()), ('n', 'f', ('n', 'l'), ())]:
            asks = ((0, 1, False), (0, 1, True))
            never = (rule[0], 'f', (*rule[2], 'k')[:2], asks)
            self.check(Book(signs, rules + [never]), 'l', 300)
            self.check(Book(signs, rules + [never, ('l', 'a', (), ())]), 'l', 301)
            self.check(Book(signs, rules + [rule]), 'l', None)

    def test_finite_only_because_of_an_ask(self):
        rules = [('k', 'a', (), ()), ('k', 'b', (), ())]
        for asks, many in [((), None), (((0, 1, True),), None), (((0, 1, False),), None), (((0, 1, False), (0, 1, True)), 2)]:
            self.check(Book(SIGNS, rules + [('k', 'f', ('k', 'k'), asks)]), 'k', many)
        # One tree alone is never two that differ.
        self.check(Book(SIGNS, [('k', 'a', (), ()), ('k', 'f', ('k', 'k'), ((0, 1, False),))]), 'k', [A])
        # Of one tree and of no end of them just one is the same.
        book = Book(SIGNS, ANY_RULES + [('k', 'a', (), ()), ('l', 'f', ('any', 'k'), ((0, 1, True),)),
                                        ('m', 'f', ('l', 'any'), ((0, 1, True),)), ('n', 'f', ('any', 'l'), ())])
        for kind, trees in [('l', [('f', A, A)]), ('m', [('f', ('f', A, A), ('f', A, A))]), ('n', None)]:
            self.check(book, kind, trees)
        signs = {'a': 0, 'b': 0, 'g': 3}
        apart = ((0, 1, False), (0, 2, False), (1, 2, False))
        leaves = [('k', 'a', (), ()), ('k', 'b', (), ())]
        self.check(Book(signs, leaves + [('k', 'g', ('k', 'k', 'k'), apart)]), 'k', [A, B])
        self.check(Book(signs, leaves + [('k', 'g', ('k', 'k', 'k'), apart[:2])]), 'k', None)
        self.check(Book(signs, leaves + [('l', 'g', ('k', 'k', 'k'), apart)]), 'l', [])
        self.check(Book(signs, leaves + [('l', 'g', ('k', 'k', 'k'), apart[1:])]), 'l', [('g', A, A, B), ('g', B, B, A)])

    def test_kinds_one_above_the_other(self):
        names = ['k' + leaf for leaf in LEAVES[:5]]
        rules = [(names[0], 'a', (), ()), (names[0], 'b', (), ())]
        rules += [(names[at + 1], 'f', (names[at], names[at]), ((0, 1, False),)) for at in range(4)]
        book = Book(SIGNS, rules)
        for name, many in zip(names, [2, 2, 2, 2, 2]):
            self.check(book, name, many)
        book = Book(SIGNS, [(*rule[:3], ()) for rule in rules])
        for name, many in zip(names, [2, 4, 16, 256, 65536]):
            self.check(book, name, many)
        # Beneath there are too many trees to be listed, but the ask leaves two of them.
        book = Book(SIGNS, [(*rule[:3], ()) for rule in rules] + [
            ('few', 'f', ('kc', 'kc'), ((0, 1, True),)), ('top', 'f', ('ke', 'few'), ((0, 1, True),)), ('all', 'f', ('kd', 'kd'), ()),
            ('and', 'f', ('all', 'one'), ((0, 1, True),)), ('one', 'f', ('kd', 'two'), ()), ('two', 'f', ('kc', 'kb'), ()),
        ])
        self.check(book, 'few', 16)
        self.check(book, 'top', 0)
        self.check(book, 'all', 65536)
        self.check(book, 'and', 0)
        self.check(book, 'two', 64)
        self.check(book, 'one', 256 * 64)

    def test_no_end_of_trees_beneath_that_no_step_lets_it_reach(self):
        rules = ANY_RULES + [
            ('one', 'a', (), ()), ('never', 'f', ('any', 'any'), ((0, 1, False), (0, 1, True))),
            ('k', 'f', ('one', 'one'), ()), ('k', 'f', ('never', 'any'), ()), ('k', 'f', ('any', 'lost'), ()),
            ('k', 'f', ('any', 'one'), ((0, 1, True),)), ('k', 'f', ('twin', 'one'), ((0, 1, True),)),
            ('twin', 'f', ('any', 'any'), ((0, 1, True),)), ('k', 'f', ('k', 'never'), ()),
        ]
        self.check(Book(SIGNS, rules), 'k', [('f', A, A)])
        self.check(Book(SIGNS, rules + [('k', 'f', ('one', 'any'), ())]), 'k', None)
        self.check(Book(SIGNS, rules + [('one', 'f', ('never', 'one'), ()), ('never', 'b', (), ())]), 'k', None)

    def test_ascending_by_size_first(self):
        signs = {'b': 0, 'a': 2, 'z': 1, 'm': 0}
        b, m = ('b',), ('m',)
        book = Book(signs, [('k', 'b', (), ()), ('k', 'm', (), ()), ('l', 'a', ('k', 'k'), ()), ('l', 'z', ('k',), ()),
                            ('l', 'm', (), ()), ('l', 'z', ('n',), ()), ('n', 'z', ('k',), ())])
        self.check(book, 'l', [m, ('z', b), ('z', m), ('a', b, b), ('a', b, m), ('a', m, b), ('a', m, m),
                               ('z', ('z', b)), ('z', ('z', m))])

    def test_great_trees(self):
        kinds = ['ka', 'kb', 'kc', 'kd', 'ke', 'kf', 'kg']
        rules = [(kinds[at + 1], 'g', (kinds[at],) * 3, ((0, 1, True), (0, 2, True))) for at in range(6)]
        book = Book({'a': 0, 'b': 0, 'g': 3, 's': 1}, [('ka', 'a', (), ()), ('ka', 'b', (), ())] + rules + [('k', 's', ('kg',), ())])
        trees = [('s', grown(leaf, lambda tree: ('g', tree, tree, tree), 6)) for leaf in [A, B]]
        self.check(book, 'k', trees)
        self.assertEqual(plain_size(trees[0]), 1 + (3 ** 7 - 1) // 2)
        rows = [grown(A, lambda tree: ('s', tree), laps) for laps in range(40)]
        book = part_book({'a': 0, 's': 1}, rows[:20])
        self.check(book, 'kind', rows[:20])
        self.check(part_book({'a': 0, 's': 1}, [rows[39], rows[17], rows[39]]), 'kind', [rows[17], rows[39]])

    def test_books_of_thousands_of_lots(self):
        # Each part of the trees is the only tree of a kind, as in books that are told by trees.
        signs = {'a': 0, 'b': 0, 's': 1, 'f': 2, 'g': 3}
        trees = []
        for number in range(20):
            tree = A
            for at in range(32):
                choice = number // 2 ** at % 2 if at < 5 else (number + at) % 4
                tree = [('s', tree), ('f', tree, A), ('f', B, tree), ('g', A, tree, B)][choice]
            trees.append(tree)
        book = part_book(signs, trees)
        self.assertGreater(len(book.kinds), 500)
        self.check(book, 'kind', plain_order(trees))
        self.assertTrue(all(is_finite(book, kind) for kind in book.kinds[::50]))
        self.assertEqual({len(all_trees(book, kind)) for kind in book.kinds[::50] if kind != 'kind'}, {1})
        wide = part_book(signs, [grown(('f', trees[at], trees[at + 1]), lambda tree: ('f', tree, tree), 5) for at in range(4)])
        self.check(wide, 'kind', 4)
        # Two thousand rules, each sign above three kinds.
        long = [('k' + one + two, sign, (), ()) for one in LEAVES for two in LEAVES for sign in 'ab']
        long += [('l' + one + two, 'g', ('k' + one + two, 'k' + two + one, 'kaa'), ()) for one in LEAVES for two in LEAVES]
        long += [('top', 'g', (rule[0], rule[0], rule[0]), ((0, 1, True), (0, 2, True))) for rule in long if rule[1] == 'g'] * 28
        self.assertLessEqual(len(long), 2000)
        self.check(Book(signs, long), 'top', 8)

    def test_beside_a_search(self):
        for book, _ in random_books(71, 90):
            with self.subTest(rules=book.rules):
                trees = [tree for row in plain_trees(book.signs, 6).values() for tree in row]
                of = plain_of(book, trees)
                for kind in of:
                    numbers = [count(book, kind, size) for size in range(1, 41)]
                    if is_finite(book, kind) and sum(numbers) <= 300 and sum(numbers[20:]) == 0:
                        self.check(book, kind, sum(numbers))
                        self.assertEqual([tree for tree in all_trees(book, kind) if plain_size(tree) <= 6], of[kind])
                    elif not is_finite(book, kind):
                        self.check(book, kind, None)
                        self.assertGreater(sum(numbers), 0)

if __name__ == '__main__':
    unittest.main()
