"""Counts of lots, and tables."""

import unittest

from likeboughs.books import Book
from likeboughs.fields import least_counts
from likeboughs.makers import maker_of
from likeboughs.nursery import smallest_trees
from likeboughs.readings import lot_of
from likeboughs.tables import counts, is_table, table
from tests.plain import is_closed, plain_counts, plain_lot, plain_size, plain_trees, random_books
from tests.samples import A, ALL_SIGNS, ANY_RULES, B, SIGNS, asking_book, example_book, grown, short_book


def chain_book(many):
    """A book in which so many lots wait for one another: each has one tree, made of that of the last one."""
    kinds = ['k' + 'abcdefgh'[at] for at in range(many)]
    rules = [(kinds[at + 1], 's', (kinds[at],), ()) for at in reversed(range(many - 1))]
    return Book({'a': 0, 's': 1}, rules + [(kinds[0], 'a', (), ())]), [(kind,) for kind in kinds]


class CountsTest(unittest.TestCase):
    def test_one_two_three_four_and_more(self):
        book = Book({'a': 0, 'b': 0, 'f': 2}, [
            ('one', 'a', (), ()), ('two', 'f', ('one', 'leaf'), ()), ('two', 'f', ('leaf', 'one'), ()),
            ('leaf', 'a', (), ()), ('leaf', 'b', (), ()), ('all', 'f', ('leaf', 'leaf'), ()),
        ])
        self.assertEqual(counts(book), {
            (): 4, ('all',): 1, ('all', 'two'): 3, ('leaf',): 1, ('leaf', 'one'): 1,
        })
        for many in range(1, 9):
            signs = {sign: 0 for sign in 'abcdefgh'[:many]}
            book = Book(signs, [('leaf', sign, (), ()) for sign in signs])
            self.assertEqual(counts(book), {('leaf',): min(many, 4)})

    def test_trees_that_are_just_four(self):
        leaves = [('k', 'a', (), ()), ('k', 'b', (), ())]
        for asks, many in [((), 4), (((0, 1, True),), 2), (((0, 1, False),), 2), (((0, 1, False), (0, 1, True)), None)]:
            book = Book(SIGNS, leaves + [('l', 'f', ('k', 'k'), asks)])
            self.assertEqual(counts(book).get(('l',)), many)

    def test_three_brothers(self):
        signs = {'a': 0, 'b': 0, 'c': 0, 'g': 3}
        leaves = [('k', 'a', (), ()), ('k', 'b', (), ())]
        apart = ((0, 1, False), (0, 2, False), (1, 2, False))
        # Two trees are too few for three different brothers.
        self.assertEqual(counts(Book(signs, leaves + [('l', 'g', ('k', 'k', 'k'), apart)])), {(): 4, ('k',): 2})
        leaves.append(('k', 'c', (), ()))
        self.assertEqual(counts(Book(signs, leaves + [('l', 'g', ('k', 'k', 'k'), apart)])), {(): 4, ('k',): 3, ('l',): 4})
        same = ((0, 1, True), (0, 2, True))
        self.assertEqual(counts(Book(signs, leaves + [('l', 'g', ('k', 'k', 'k'), same)])), {(): 4, ('k',): 3, ('l',): 3})

    def test_books_without_rules(self):
        self.assertEqual(counts(Book(SIGNS, [])), {(): 4})
        self.assertEqual(counts(Book({'a': 0}, [])), {(): 1})
        self.assertEqual(counts(Book({'a': 0, 'b': 0, 'c': 0}, [])), {(): 3})
        self.assertEqual(counts(Book({'a': 0, 's': 1}, [])), {(): 4})

    def test_signs_without_a_leaf(self):
        for signs in [{'s': 1}, {'f': 2}, {'g': 3}, {'s': 1, 'f': 2, 'g': 3}]:
            for rules in [[], [('k', sign, ('k',) * signs[sign], ()) for sign in signs]]:
                book = Book(signs, rules)
                self.assertEqual([counts(book), table(book)], [{}, []])
                self.assertIs(is_table(book, []), True)
                for thing in [[((), [])], [((), [A])], [(('k',), [('s', A)])], {}, (), None]:
                    self.assertIs(is_table(book, thing), False)

    def test_lots_that_wait_for_one_another(self):
        for many in range(1, 8):
            book, lots = chain_book(many)
            self.assertEqual(counts(book), {(): 4, **{lot: 1 for lot in lots}})
            trees = [grown(A, lambda tree: ('s', tree), laps) for laps in range(many + 4)]
            self.assertEqual(table(book), [((), trees[many:])] + [(lot, [tree]) for lot, tree in zip(lots, trees)])
        # The second tree of the first lot comes only when all the others are there.
        kinds = ['ka', 'kb', 'kc', 'kd', 'ke', 'kf', 'kg', 'kh']
        ring = Book({'a': 0, 's': 1}, [('ka', 'a', (), ())] + [(kinds[at], 's', (kinds[at - 1],), ()) for at in range(8)])
        self.assertEqual(counts(ring), {(kind,): 4 for kind in kinds})
        for at, (lot, trees) in enumerate(table(ring)):
            self.assertEqual(trees, [grown(A, lambda tree: ('s', tree), at + 8 * lap) for lap in range(4)])

    def test_many_trees_are_needed_for_one(self):
        # A tree of the kind needs two others that are not the same, one after the other.
        book = Book({'a': 0, 'f': 2}, [
            ('k', 'a', (), ()), ('k', 'f', ('k', 'k'), ((0, 1, True),)), ('odd', 'f', ('k', 'k'), ((0, 1, False),)),
            ('far', 'f', ('odd', 'odd'), ((0, 1, False),)),
        ])
        self.assertEqual(counts(book), {(): 4, ('far',): 4, ('k',): 4, ('odd',): 4})

    def test_the_order_of_the_dict(self):
        for book, _ in random_books(31, 30):
            self.assertEqual(list(counts(book)), sorted(counts(book)))
        self.assertEqual(list(counts(asking_book())), sorted(counts(asking_book())))
        book = Book({'a': 0, 'b': 0}, [('z', 'a', (), ()), ('b', 'b', (), ()), ('c', 'b', (), ())])
        self.assertEqual(list(counts(book)), [('b', 'c'), ('z',)])

    def test_beside_the_long_way(self):
        for book, held in random_books(32, 80):
            with self.subTest(rules=book.rules):
                told = counts(book)
                self.assertEqual(told, {lot: len(held[lot]) for lot in held})
                found = {}
                known = {}
                for trees in plain_trees(book.signs, 6).values():
                    for tree in trees:
                        lot = plain_lot(book, tree, known)
                        found[lot] = found.get(lot, 0) + 1
                for lot in found:
                    self.assertGreaterEqual(told[lot], min(4, found[lot]))

    def test_two_thousand_rules(self):
        letters = 'abcdefghijklmnopqrst'
        kinds = [one + two + three for one in 'ab' for two in letters for three in letters]
        rules = [(kind, 'a', (), ()) for kind in kinds] + [(kind, 'f', (kind, kind), ((0, 1, True),)) for kind in kinds]
        book = Book(SIGNS, rules + rules[:400])
        self.assertEqual(len(book), 2000)
        self.assertEqual(counts(book), {(): 4, tuple(kinds): 4})
        self.assertIs(is_table(book, table(book)), True)
        rules = [('k' + kind[1:], 'g', ('any', 'any', 'any'), ((0, 1, True), (1, 2, False))) for kind in kinds[:400]]
        book = Book(ALL_SIGNS, [('any', 'a', (), ()), ('any', 's', ('any',), ())] + rules * 4)
        self.assertEqual(counts(book), {(): 4, ('any',): 4, tuple('k' + kind[1:] for kind in kinds[:400]): 4})
        self.assertIs(is_table(book, table(book)), True)


class TableTest(unittest.TestCase):
    def check_table(self, book, rows):
        self.assertEqual({lot: len(trees) for lot, trees in rows}, counts(book))
        for lot, trees in rows:
            self.assertEqual([plain_lot(book, tree) for tree in trees], [lot] * len(trees))
            self.assertEqual(len(set(trees)), len(trees))
        self.assertIs(is_table(book, rows), True)

    def test_tables(self):
        for book in [
            example_book(), short_book(), asking_book(), Book(SIGNS, []), Book({'a': 0}, []), Book(SIGNS, ANY_RULES),
        ]:
            self.check_table(book, table(book))

    def test_beside_the_long_way(self):
        for book, _ in random_books(33, 60):
            with self.subTest(rules=book.rules):
                rows = table(book)
                self.check_table(book, rows)
                self.assertTrue(is_closed(book, rows))

    def test_trees_have_least_sizes(self):
        for book, _ in random_books(34, 40):
            found = {}
            known = {}
            for size, trees in plain_trees(book.signs, 6).items():
                for tree in trees:
                    found.setdefault(plain_lot(book, tree, known), []).append(size)
            for lot, trees in table(book):
                wanted = found.get(lot, [])[:4]
                self.assertEqual([plain_size(tree) for tree in trees][:len(wanted)], wanted)

    def test_sizes_where_a_small_brother_stands_twice(self):
        # c has trees of 1, 5, 6, 7, 8 places. The fourth t(x, y, y) is made of the fifth of these.
        book = Book({'a': 0, 'b': 0, 'u': 1, 'v': 1, 'g': 3}, [
            ('p', 'a', (), ()), ('c', 'b', (), ()), ('r', 'g', ('p', 'p', 'p'), ()), ('c', 'u', ('r',), ()),
            ('r', 'v', ('r',), ()), ('t', 'g', ('c', 'c', 'c'), ((0, 1, False), (1, 2, True))),
        ])
        maker = maker_of(book)
        found = smallest_trees(maker, least_counts(maker))
        sizes = {maker.lot(lot): [plain_size(tree) for tree in found[lot]] for lot in found}
        self.assertEqual([sizes[('c',)], sizes[('t',)]], [[1, 5, 6, 7], [8, 9, 10, 11]])
        self.check_table(book, table(book))

    def test_great_trees(self):
        # Each lot doubles the trees of the one ahead: the last one has trees of some thousand places.
        kinds = ['ka', 'kb', 'kc', 'kd', 'ke', 'kf', 'kg']
        rules = [(kinds[at + 1], 'f', (kinds[at], kinds[at]), ((0, 1, True),)) for at in range(6)]
        leaves = [('ka', 'a', (), ()), ('ka', 's', ('ka',), ())]
        book = Book({'a': 0, 's': 1, 'f': 2}, leaves + rules)
        self.check_table(book, table(book))
        self.assertEqual(plain_size(dict(table(book))[('kg',)][3]), 5 * 64 - 1)
        trees = [grown(tree, lambda tree: ('f', tree, tree), 6) for tree in
                 [grown(A, lambda tree: ('s', tree), laps) for laps in [30, 31, 32, 33]]]
        self.assertEqual([lot_of(book, tree) for tree in trees], [('kg',)] * 4)
        self.assertIs(is_table(book, [(lot, trees if lot == ('kg',) else row) for lot, row in table(book)]), True)

    def test_counts_hang_on_nothing_but_the_trees(self):
        book = example_book()
        self.assertEqual(plain_counts(book), counts(book))
        other = Book(SIGNS, list(reversed(book.rules)) + book.rules)
        self.assertEqual(counts(other), counts(book))
        self.assertIs(is_table(other, table(book)), True)
        self.assertIs(is_table(book.renamed({'full': 'even'}), table(book)), False)

    def test_kinds_beneath_that_no_rule_has(self):
        book = Book(SIGNS, [('k', 'f', ('none', 'none'), ()), ('l', 'a', (), ())])
        self.assertEqual(counts(book), {(): 4, ('l',): 1})
        self.assertEqual(table(book)[1], (('l',), [A]))
        self.assertEqual(table(book)[0][1][0], B)


if __name__ == '__main__':
    unittest.main()
