"""What the promises say taken together."""

import unittest

from likeboughs.beside import are_alike, holds, parting
from likeboughs.books import Book
from likeboughs.counting import count, listed
from likeboughs.cuts import cut, of_trees
from likeboughs.errors import TooMany
from likeboughs.finite import all_trees, is_finite, is_ring, ring
from likeboughs.joined import without
from likeboughs.made import is_made, least, least_size
from likeboughs.needless import needless_rules, without_rule
from likeboughs.readings import is_of, lot_of
from likeboughs.surroundings import are_kin, filled
from likeboughs.tables import counts, is_table, table
from likeboughs.trees import size, trees_of_size
from tests.plain import plain_size, random_books
from tests.samples import ALL_SIGNS, asking_book, example_book, short_book


def some_books(seed, many):
    return [example_book(), short_book(), asking_book()] + [book for book, _ in random_books(seed, many)]


class TogetherTest(unittest.TestCase):
    def test_every_lot_of_a_tree_is_counted(self):
        for book in some_books(101, 50):
            told = counts(book)
            found = {}
            for places in range(1, 7 if book.signs != ALL_SIGNS else 6):
                for tree in trees_of_size(book.signs, places):
                    lot = lot_of(book, tree)
                    found[lot] = found.get(lot, 0) + 1
            for lot in found:
                self.assertGreaterEqual(told[lot], min(4, found[lot]))

    def test_made_and_counted(self):
        for book in some_books(102, 60):
            for kind in book.kinds + ['none']:
                lots = [lot for lot in counts(book) if kind in lot]
                self.assertIs(is_made(book, kind), lots != [])
                if lots:
                    places = least_size(book, kind)
                    self.assertEqual(size(book.signs, least(book, kind)), places)
                    self.assertIs(is_of(book, kind, least(book, kind)), True)
                    if places <= 40:
                        self.assertEqual([count(book, kind, number) for number in range(1, places)], [0] * (places - 1))
                        self.assertGreater(count(book, kind, places), 0)
                    self.assertEqual(min(plain_size(row[1][0]) for row in table(book) if kind in row[0]), places)

    def test_finite_kinds_list_what_is_counted(self):
        for book in some_books(103, 60):
            for kind in book.kinds + ['none']:
                numbers = [count(book, kind, places) for places in range(1, 41)]
                if is_finite(book, kind):
                    self.assertIs(ring(book, kind), None)
                    try:
                        told = all_trees(book, kind)
                    except TooMany:
                        continue
                    self.assertEqual([sum(plain_size(tree) == places for tree in told) for places in range(1, 41)], numbers)
                    self.assertEqual(sum(min(4, number) for number in [len(told)]),
                                     min(4, sum(number for lot, number in counts(book).items() if kind in lot)))
                    for places in range(1, 8):
                        self.assertEqual([tree for tree in told if plain_size(tree) == places], listed(book, kind, places))
                else:
                    self.assertEqual(max(number for lot, number in counts(book).items() if kind in lot), 4)

    def test_rings_go_where_there_is_no_end(self):
        for book in some_books(104, 60):
            for kind in book.kinds + ['none']:
                told = ring(book, kind)
                self.assertIs(told is None, is_finite(book, kind))
                if told is not None:
                    self.assertIs(is_ring(book, kind, told), True)
                    tree, frame, outer = told
                    again = filled(book.signs, frame, tree)
                    self.assertEqual(lot_of(book, again), lot_of(book, tree))
                    self.assertIs(is_of(book, kind, filled(book.signs, outer, again)), True)
                    with self.assertRaises(TooMany):
                        all_trees(book, kind)
                    # The tree and the one that is filled with it are kin, as one is as good as the other.
                    lots = [lot_of(book, filled(book.signs, outer, part)) for part in [tree, again]]
                    self.assertEqual(lots[0], lots[1])

    def test_trees_that_are_parted_by_none_alone(self):
        for book in some_books(105, 30):
            trees = [tree for places in (1, 2, 3) for tree in trees_of_size(book.signs, places)][:6]
            for kind in book.kinds:
                for one in trees:
                    for other in trees:
                        if is_of(book, kind, one) != is_of(book, kind, other):
                            self.assertIs(are_kin(book, kind, one, other), False)

    def test_tables_and_counts(self):
        for book in some_books(106, 40):
            rows = table(book)
            self.assertIs(is_table(book, rows), True)
            self.assertEqual({lot: len(trees) for lot, trees in rows}, counts(book))
            for lot, trees in rows:
                for kind in lot:
                    self.assertIs(is_made(book, kind), True)
                    self.assertLessEqual(least_size(book, kind), plain_size(trees[0]))

    def other_books(self, book):
        """Books that differ from a book in the order of rules, in rules that stand twice, or in names, and the new names."""
        names = {kind: 'z' + kind[::-1] for kind in book.kinds}
        yield Book(book.signs, book.rules[::-1]), {}
        yield Book(book.signs, book.rules + book.rules[::2]), {}
        yield book.renamed(names), names
        yield Book(book.signs, (book | book).rules[1:] + book.rules[:1]), {}
        yield Book(dict(reversed(book.signs.items())), book.rules), {}

    def test_order_of_rules_rules_that_stand_twice_and_names(self):
        for book in some_books(107, 25):
            trees = [tree for places in (1, 2, 3, 4) for tree in trees_of_size(book.signs, places)][:12]
            for other, names in self.other_books(book):
                def renamed(lot):
                    return tuple(sorted(names.get(kind, kind) for kind in lot))
                self.assertEqual(counts(other), {renamed(lot): number for lot, number in counts(book).items()})
                for tree in trees:
                    self.assertEqual(lot_of(other, tree), renamed(lot_of(book, tree)))
                for kind in book.kinds:
                    name = names.get(kind, kind)
                    for places in [1, 2, 3, 6, 7, 40]:
                        self.assertEqual(count(other, name, places), count(book, kind, places))
                    self.assertEqual(least_size(other, name), least_size(book, kind))
                    self.assertIs(is_finite(other, name), is_finite(book, kind))
                    self.assertIs(are_alike(book, kind, other, name), True)
                    self.assertIs(holds(other, name, book, kind), True)
                    self.assertIs(parting(other, name, book, kind), None)
                    self.assertIs(is_made(*without(other, name, book, kind)), False)
                    self.assertEqual(are_kin(other, name, *trees[:2]), are_kin(book, kind, *trees[:2]))
                    told = ring(book, kind)
                    if told is not None:
                        self.assertIs(is_ring(other, name, told), True)

    def test_a_rule_that_stands_twice_is_needless(self):
        for book in some_books(108, 25):
            twice = Book(book.signs, book.rules + book.rules)
            for kind in book.kinds + ['none']:
                self.assertEqual(needless_rules(twice, kind), list(range(len(twice))))
                told = needless_rules(book, kind)
                self.assertTrue(all(are_alike(without_rule(book, index), kind, book, kind) for index in told))

    def test_cut_and_counted(self):
        for book in some_books(109, 25):
            for kind in book.kinds:
                for size in range(1, 8):
                    told, name = cut(book, kind, size)
                    self.assertIs(holds(book, kind, told, name) if len(counts(told)) <= 5 else True, True)
                    for places in range(1, 9):
                        self.assertEqual(count(told, name, places), count(book, kind, places) if places <= size else 0)

    def test_listed_trees_make_a_kind(self):
        for book in some_books(110, 25):
            for kind in book.kinds:
                trees = [tree for places in range(1, 6) for tree in listed(book, kind, places)][:20]
                told, name = of_trees(book.signs, trees)
                self.assertEqual(all_trees(told, name), trees)
                self.assertEqual([count(told, name, places) for places in range(1, 7)],
                                 [sum(plain_size(tree) == places for tree in trees) for places in range(1, 7)])


if __name__ == '__main__':
    unittest.main()
