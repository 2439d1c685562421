"""Lots and kinds of trees, and their readings."""

import random
import unittest

from likeboughs.books import Book
from likeboughs.readings import is_of, is_reading, lot_of, reading
from tests.plain import plain_lot, plain_readings, plain_trees, random_book
from tests.samples import (
    A, ALL_SIGNS, ANY_RULES, B, SIGNS, asking_book, example_book, grown, short_book, wide_tree,
)

FAA, FAB, FBA = ('f', A, A), ('f', A, B), ('f', B, A)
S = ('s', A)
WIDE_SIGNS = {'a': 0, 'b': 0, 's': 1, 'f': 2, 'g': 3}


def names(many):
    """So many different names."""
    letters = 'abcdefghijklmnopqrstuvwxyz'
    return ['k' + letters[at // 676] + letters[at // 26 % 26] + letters[at % 26] for at in range(many)]


class LotTest(unittest.TestCase):
    def test_signs_with_all_numbers_of_brothers(self):
        book = asking_book()
        for tree, lot in [
            (A, ('any',)), (S, ('any',)), (FAA, ('any', 'twin')), (('f', A, S), ('any', 'odd')),
            (('s', FAA), ('any', 'over')), (('s', ('f', A, S)), ('any',)),
            (('g', A, A, A), ('any', 'same')), (('s', ('g', A, A, A)), ('any', 'over')),
            (('g', A, A, S), ('any',)), (('g', A, S, A), ('any', 'some')), (('g', S, A, A), ('any',)),
            (('g', A, S, FAA), ('any', 'apart')), (('f', FAA, ('f', A, S)), ('any', 'beneath', 'odd')),
            (('f', ('f', A, S), FAA), ('any', 'odd')),
        ]:
            with self.subTest(tree=tree):
                self.assertEqual(lot_of(book, tree), lot)
                self.assertIs(type(lot_of(book, tree)), tuple)
                for kind in book.kinds + ['none', 'abcdefgh']:
                    self.assertIs(is_of(book, kind, tree), kind in lot)

    def test_each_ask_counts(self):
        for asks, wanted in [
            ((), [1, 1, 1, 1, 1]), (((0, 1, True),), [1, 1, 0, 0, 0]), (((0, 2, True),), [1, 0, 1, 0, 0]),
            (((1, 2, True),), [1, 0, 0, 1, 0]), (((0, 1, False),), [0, 0, 1, 1, 1]), (((0, 2, False),), [0, 1, 0, 1, 1]),
            (((1, 2, False),), [0, 1, 1, 0, 1]), (((0, 1, False), (1, 2, True)), [0, 0, 0, 1, 0]),
            (((0, 1, False), (0, 2, False), (1, 2, False)), [0, 0, 0, 0, 1]),
            (((0, 1, True), (0, 2, True), (1, 2, True)), [1, 0, 0, 0, 0]),
            (((0, 1, True), (0, 2, False)), [0, 1, 0, 0, 0]), (((0, 1, True), (0, 2, True), (1, 2, False)), [0] * 5),
            (((1, 2, False), (1, 2, True)), [0] * 5), (((0, 1, False), (0, 2, True)), [0, 0, 1, 0, 0]),
        ]:
            book = Book(ALL_SIGNS, [
                ('any', 'a', (), ()), ('any', 's', ('any',), ()), ('k', 'g', ('any', 'any', 'any'), asks),
            ])
            two = ('s', S)
            rows = [(A, A, A), (S, S, A), (S, A, S), (A, S, S), (A, S, two)]
            with self.subTest(asks=asks):
                self.assertEqual([is_of(book, 'k', ('g', *row)) for row in rows], [bool(number) for number in wanted])

    def test_asks_of_equal_parts_that_are_made_apart(self):
        left = ('f', ('f', ('a',), ('b',)), ('f', ('a',), ('b',)))
        self.assertEqual(lot_of(example_book(), left), ('any', 'twin'))
        book = Book(SIGNS, ANY_RULES + [('k', 'f', ('k', 'any'), ((0, 1, False),)), ('k', 'a', (), ())])
        self.assertEqual([is_of(book, 'k', tree) for tree in [A, FAA, FAB, ('f', FAB, FAB), ('f', FAB, FBA)]],
                         [True, False, True, False, True])

    def test_trees_without_a_kind(self):
        book = short_book()
        self.assertEqual([lot_of(book, tree) for tree in [A, FAB, FAA, ('f', FAB, A)]], [('leaf',), ('pair',), (), ()])
        self.assertEqual(lot_of(Book(SIGNS, []), FAA), ())
        self.assertEqual(lot_of(Book({'a': 0}, []), A), ())

    def test_kinds_that_no_rule_has_and_kinds_of_none(self):
        book = asking_book()
        for kind in ['nothing', 'lost', 'deep', 'never', 'none', 'a', 'f']:
            for tree in [A, S, FAA, ('f', A, S), grown(A, lambda tree: ('s', tree), 20)]:
                self.assertIs(is_of(book, kind, tree), False)
                self.assertIsNone(reading(book, kind, tree))

    def test_rules_that_use_one_another(self):
        book = Book({'a': 0, 's': 1}, [('even', 's', ('odd',), ()), ('odd', 's', ('even',), ()), ('even', 'a', (), ())])
        tree = A
        for laps in range(40):
            self.assertEqual(lot_of(book, tree), ('odd',) if laps % 2 else ('even',))
            tree = ('s', tree)

    def test_beside_the_long_way(self):
        chance = random.Random(11)
        for lap in range(40):
            signs = [SIGNS, ALL_SIGNS, WIDE_SIGNS, {'a': 0, 'g': 3}][lap % 4]
            book = random_book(chance, signs, ['k', 'l', 'm', 'n'], 16)
            found = plain_trees(signs, 6)
            for tree in [tree for number in found for tree in chance.sample(found[number], min(5, len(found[number])))]:
                lot = plain_lot(book, tree)
                self.assertEqual(lot_of(book, tree), lot)
                for kind in book.kinds:
                    self.assertIs(is_of(book, kind, tree), kind in lot)
                    self.assertIs(reading(book, kind, tree) is None, kind not in lot)

    def test_great_trees(self):
        book = example_book()
        tree = grown(A, lambda tree: ('f', tree, tree), 11)
        self.assertEqual(lot_of(book, tree), ('any', 'full', 'twin'))
        self.assertEqual(lot_of(book, ('f', tree, B)), ('any',))
        self.assertEqual(lot_of(book, grown(A, lambda tree: ('f', tree, B), 39)), ('any',))
        self.assertEqual(lot_of(book, grown(A, lambda tree: ('f', B, tree), 39)), ('any',))
        self.assertEqual(lot_of(book, wide_tree(4999)), ('any',))
        # One leaf out of thousands is another one.
        one, other = wide_tree(2047, [A]), wide_tree(2047, [A] * 1023 + [B])
        self.assertEqual([lot_of(book, ('f', one, one)), lot_of(book, ('f', one, other))],
                         [('any', 'full', 'twin'), ('any',)])

    def test_two_thousand_rules(self):
        kinds = names(1000)
        rules = [(kind, 'a', (), ()) for kind in kinds]
        rules += [(kinds[at], 'f', (kinds[at - 1], kinds[at]), ((0, 1, at % 2 == 0),)) for at in range(1000)]
        book = Book(SIGNS, rules)
        self.assertEqual(lot_of(book, A), tuple(kinds))
        self.assertEqual(lot_of(book, FAA), tuple(kinds[::2]))
        self.assertEqual(lot_of(book, ('f', A, FAA)), ())
        self.assertEqual(lot_of(book, FAB), ())
        told = reading(book, kinds[998], FAA)
        self.assertEqual(told, (1998, (997,), (998,)))
        self.assertIs(is_reading(book, kinds[998], FAA, told), True)
        self.assertEqual(lot_of(book, wide_tree(4999)), ())
        # Hundreds of kinds each stand at thousands of places.
        kinds = names(400)
        book = Book(SIGNS, [(kind, 'a', (), ()) for kind in kinds] + [(kinds[at], 'f', (kinds[at - 1], kinds[at]), ())
                                                                     for at in range(400)])
        tree = wide_tree(4999, [A])
        self.assertEqual(lot_of(book, tree), tuple(kinds))
        self.assertIs(is_reading(book, kinds[7], tree, reading(book, kinds[7], tree)), True)


class ReadingTest(unittest.TestCase):
    def test_readings(self):
        book = example_book()
        self.assertEqual(reading(book, 'twin', FAA), (3, (0,), (0,)))
        self.assertEqual(reading(book, 'any', FAB), (2, (0,), (1,)))
        self.assertEqual([reading(book, 'full', A), reading(book, 'full', B)], [(4,), None])
        self.assertEqual(reading(book, 'twin', ('f', FAB, FAB)), (3, (2, (0,), (1,)), (2, (0,), (1,))))

    def test_one_part_read_as_several_kinds(self):
        book = Book(SIGNS, [('k', 'a', (), ()), ('l', 'a', (), ()), ('m', 'f', ('k', 'l'), ()), ('k', 'f', ('m', 'm'), ())])
        self.assertEqual(reading(book, 'm', FAA), (2, (0,), (1,)))
        self.assertEqual(reading(book, 'k', ('f', FAA, FAA)), (3, (2, (0,), (1,)), (2, (0,), (1,))))

    def test_trees_with_several_readings(self):
        book = Book(SIGNS, [
            ('k', 'f', ('k', 'l'), ()), ('k', 'a', (), ()), ('l', 'a', (), ()), ('k', 'f', ('l', 'k'), ((0, 1, True),)),
            ('k', 'a', (), ()), ('k', 'f', ('k', 'l'), ()),
        ])
        wanted = [(0, (1,), (2,)), (0, (4,), (2,)), (3, (2,), (1,)), (3, (2,), (4,)), (5, (1,), (2,)), (5, (4,), (2,))]
        self.assertEqual(plain_readings(book, 'k', FAA), wanted)
        self.assertIn(reading(book, 'k', FAA), wanted)
        for thing in wanted:
            self.assertIs(is_reading(book, 'k', FAA, thing), True)
        for thing in [(0, (2,), (1,)), (0, (2,), (2,)), (3, (1,), (2,)), (1, (1,), (2,)), (2, (1,), (2,)), (0, (1,), (1,))]:
            self.assertIs(is_reading(book, 'k', FAA, thing), False)

    def test_beside_the_long_way(self):
        chance = random.Random(12)
        for lap in range(30):
            signs = [SIGNS, ALL_SIGNS, WIDE_SIGNS][lap % 3]
            book = random_book(chance, signs, ['k', 'l', 'm'], 14)
            found = plain_trees(signs, 5)
            for tree in [tree for number in found for tree in chance.sample(found[number], min(4, len(found[number])))]:
                for kind in book.kinds:
                    wanted = plain_readings(book, kind, tree)
                    told = reading(book, kind, tree)
                    self.assertTrue(told in wanted if wanted else told is None)
                    for thing in wanted[:5]:
                        self.assertIs(is_reading(book, kind, tree, thing), True)
                        self.assertIs(is_reading(book, 'none', tree, thing), False)
                        for other in book.kinds:
                            self.assertIs(is_reading(book, other, tree, thing), other == kind)

    def test_great_trees(self):
        book = example_book()
        for kind, tree in [
            ('full', grown(A, lambda tree: ('f', tree, tree), 11)), ('any', wide_tree(4999)),
            ('any', grown(A, lambda tree: ('f', tree, B), 39)), ('any', grown(A, lambda tree: ('f', B, tree), 39)),
        ]:
            told = reading(book, kind, tree)
            self.assertIs(is_reading(book, kind, tree, told), True)
            self.assertIs(is_reading(book, kind, tree, (*told[:2], told[1], told[2])), False)
            self.assertIs(is_reading(book, kind, ('f', tree, tree), told), False)


if __name__ == '__main__':
    unittest.main()
