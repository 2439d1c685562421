"""Rows of trees of which each two are parted."""

import copy
import random
import unittest
from itertools import combinations, product

from likeboughs.books import Book
from likeboughs.errors import InvalidNumber, PlainKind
from likeboughs.plain import is_parted_row, needs_asks, parted_row
from likeboughs.surroundings import are_kin
from tests.plain import plain_lot, plain_size, plain_trees, random_books
from tests.samples import A, ANY_RULES, B, SIGNS, asking_book, example_book, grown, odd_objects, short_book, wide_tree

FAA, FAB, FBA, FBB = ('f', A, A), ('f', A, B), ('f', B, A), ('f', B, B)


class PartedRowTest(unittest.TestCase):
    def check(self, book, kind):
        self.assertIs(needs_asks(book, kind), True)
        for many in range(1, 7):
            row = parted_row(book, kind, many)
            self.assertEqual([type(row), len(row)], [list, many])
            self.assertLessEqual(max(plain_size(tree) for tree in row), 5000)
            self.assertIs(is_parted_row(book, kind, row), True)
            self.assertIs(is_parted_row(book, kind, row[::-1]), True)
            self.assertFalse(any(are_kin(book, kind, one, other) for one, other in combinations(row, 2)))
            self.assertIsNot(parted_row(book, kind, many), row)
            row.clear()
            self.assertEqual(len(parted_row(book, kind, many)), many)

    def test_kinds_of_the_samples(self):
        for kind in ['twin', 'full']:
            self.check(example_book(), kind)
        for kind in ['same', 'twin', 'odd', 'over', 'beneath']:
            self.check(asking_book(), kind)

    def test_rings_of_several_kinds(self):
        for many in range(1, 8):
            names = ['k' + letter for letter in 'abcdefgh'[:many]]
            # Each kind stands above the one ahead of it, the first one above the last one.
            rules = [(names[at], 's', (names[at - 1],), ()) for at in range(many)] + [(names[0], 'a', (), ())]
            book = Book({'a': 0, 's': 1, 'f': 2}, rules + [('top', 'f', (names[0], names[0]), ((0, 1, True),))])
            self.check(book, 'top')
            rules = [(names[at], 'f', (names[at - 1],) * 2, ((0, 1, True),)) for at in range(many)] + [(names[0], 'a', (), ())]
            self.check(Book({'a': 0, 'b': 0, 'f': 2}, rules), names[-1])
        for many in range(1, 5):
            names = ['k' + letter for letter in 'abcdefgh'[:many]]
            rules = [(names[at], 'g', (names[at - 1],) * 3, ((0, 1, True), (0, 2, True))) for at in range(many)] + [(names[0], 'a', (), ())]
            self.check(Book({'a': 0, 'g': 3}, rules), names[0])

    def test_trees_that_are_parted_only_high_above(self):
        rules = ANY_RULES + [('twin', 'f', ('any', 'any'), ((0, 1, True),))]
        rules += [('k' + letter, 'f', ('k' + below, 'leaf'), ()) for below, letter in zip('abcd', 'bcde')]
        rules += [('ka', 'f', ('twin', 'leaf'), ()), ('leaf', 'a', (), ())]
        self.check(Book(SIGNS, rules[:4] + rules[-2:]), 'ka')
        self.check(Book(SIGNS, rules[:6] + rules[-2:]), 'kc')

    def test_kinds_that_need_no_asks(self):
        books = [(example_book(), 'any'), (example_book(), 'none'), (short_book(), 'pair'), (short_book(), 'leaf'), (Book(SIGNS, []), 'k')]
        for book, kind in books:
            self.assertIs(needs_asks(book, kind), False)
            for many in range(1, 7):
                with self.assertRaises(PlainKind):
                    parted_row(book, kind, many)
            for many in [0, 7, True, None, '1']:
                with self.assertRaises(InvalidNumber):
                    parted_row(book, kind, many)

    def test_numbers(self):
        for many in [0, 7, -1, 8, 10 ** 39, True, False, None, '3', 3.0, [3], (3,)] + odd_objects():
            with self.subTest(many=str(many)[:60]):
                with self.assertRaises(InvalidNumber):
                    parted_row(example_book(), 'twin', many)

    def test_by_chance(self):
        found = 0
        for book, _ in random_books(191, 250):
            for kind in book.kinds:
                if needs_asks(book, kind):
                    found += 1
                    with self.subTest(rules=book.rules, kind=kind):
                        self.check(book, kind)
        self.assertGreater(found, 20)


class IsPartedRowTest(unittest.TestCase):
    def test_short_rows(self):
        for book, kind in [(example_book(), 'twin'), (example_book(), 'none'), (short_book(), 'pair'), (Book(SIGNS, []), 'k')]:
            self.assertIs(is_parted_row(book, kind, []), True)
            for tree in [A, B, FAB, wide_tree(4999), grown(A, lambda tree: ('f', tree, A), 39)]:
                self.assertIs(is_parted_row(book, kind, [tree]), True)
                for row in [[tree, tree], [tree, A, tree], [A, tree, B, tree]]:
                    self.assertIs(is_parted_row(book, kind, row), False)

    def test_rows(self):
        book = example_book()
        for row, wanted in [([A, B], True), ([A, B, A], False), ([FAB, FBA], True), ([FAA, FBB, FAB, FBA, A, B], True)]:
            self.assertIs(is_parted_row(book, 'twin', row), wanted)
        self.assertIs(is_parted_row(book, 'any', [A, B]), False)
        # Beneath full a and b are parted, but no two trees that can not be full above.
        self.assertIs(is_parted_row(book, 'full', [A, B]), True)
        self.assertIs(is_parted_row(book, 'full', [A, B, FAB]), False)
        self.assertIs(is_parted_row(book, 'full', [A, FAA, ('f', FAA, FAA), B]), True)
        for row, wanted in [([A, B], True), ([A, B, FAB], True), ([A, B, FAB, FBA], False), ([A, B, FAA, FAB], True), ([FAA, ('f', FAA, FAA)], False)]:
            self.assertIs(is_parted_row(short_book(), 'pair', row), wanted)

    def test_no_lists_of_trees(self):
        book = example_book()
        for thing in odd_objects():
            if thing != [A]:
                self.assertIs(is_parted_row(book, 'twin', thing), False)
            self.assertIs(is_parted_row(book, 'twin', [A, thing]), False)
            self.assertIs(is_parted_row(book, 'twin', [thing]), False)
        for thing in [(), (A,), (A, B), ([A, B],), {0: A, 1: B}, {A: B}, [A, 'b'], ['a'], [('s', A)], [('f', A)], [A, [B]], [[A, B]], 'ab', A,
                      [A, None], [('f', None, A)], [('c',)]]:
            self.assertIs(is_parted_row(book, 'twin', thing), False)

    def test_many_trees(self):
        book = example_book()
        trees = [tree for size in (1, 3, 5, 7) for tree in plain_trees(SIGNS, 7)[size]]
        self.assertIs(is_parted_row(book, 'twin', trees), True)
        self.assertIs(is_parted_row(book, 'twin', trees * 2), False)
        self.assertIs(is_parted_row(book, 'twin', trees + [trees[50]]), False)
        self.assertIs(is_parted_row(book, 'twin', [A] * 50000), False)
        self.assertIs(is_parted_row(book, 'twin', [wide_tree(4999), wide_tree(4997), wide_tree(4999, (B, A))]), True)

    def test_beside_are_kin(self):
        chance = random.Random(192)
        for book, _ in random_books(192, 60):
            trees = [tree for row in plain_trees(book.signs, 5).values() for tree in row]
            for kind in book.kinds + ['none']:
                for _ in range(5):
                    row = [chance.choice(trees) for _ in range(chance.randint(2, 4))]
                    given = copy.deepcopy(row)
                    wanted = not any(are_kin(book, kind, one, other) for one, other in combinations(row, 2))
                    self.assertIs(is_parted_row(book, kind, row), wanted)
                    self.assertEqual(row, given)

    def test_whether_two_trees_are_parted_hangs_on_their_lots(self):
        for book, held in random_books(193, 40):
            known = {}
            trees = [tree for row in plain_trees(book.signs, 4).values() for tree in row]
            for kind in book.kinds:
                told = {}
                for one, other in product(trees[:12], repeat=2):
                    if one != other:
                        lots = tuple(sorted([plain_lot(book, one, known), plain_lot(book, other, known)]))
                        told.setdefault(lots, set()).add(is_parted_row(book, kind, [one, other]))
                self.assertEqual({len(answers) for answers in told.values()} - {1}, set())


if __name__ == '__main__':
    unittest.main()
