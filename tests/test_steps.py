"""Patterns, and the steps that rules tell."""

import random
import unittest
from itertools import product

from likeboughs.books import Book
from likeboughs.errors import InvalidLots, InvalidNumber, InvalidPattern, InvalidTrees, UnknownSign
from likeboughs.readings import lot_of
from likeboughs.steps import pattern_of, patterns, step
from tests.plain import plain_trees, random_book
from tests.samples import A, ALL_SIGNS, B, ODD_NAMES, SIGNS, asking_book, example_book, grown, odd_objects, wide_tree

FAA, FAB = ('f', A, A), ('f', A, B)
ANY, FULL = ('any',), ('any', 'full')


class PatternsTest(unittest.TestCase):
    def test_all_of_them(self):
        self.assertEqual([patterns(many) for many in range(4)], [
            [()], [(0,)], [(0, 0), (0, 1)], [(0, 0, 0), (0, 0, 2), (0, 1, 0), (0, 1, 1), (0, 1, 2)],
        ])
        for many in range(4):
            found = {tuple(row.index(thing) for thing in row) for row in product('abc', repeat=many)}
            self.assertEqual(patterns(many), sorted(found))

    def test_invalid_number(self):
        for many in [-1, 4, 5, 10 ** 39, -10 ** 39, True, False, None, '2', (), (2,), [2], {2: 2}] + odd_objects():
            with self.subTest(many=str(many)[:60]):
                with self.assertRaises(InvalidNumber):
                    patterns(many)


class PatternOfTest(unittest.TestCase):
    def test_patterns(self):
        for trees, pattern in [
            ([], ()), ([A], (0,)), ([FAA], (0,)), ([A, A], (0, 0)), ([A, B], (0, 1)), ([FAB, FAB], (0, 0)),
            ([A, A, A], (0, 0, 0)), ([A, A, B], (0, 0, 2)), ([A, B, A], (0, 1, 0)), ([A, B, B], (0, 1, 1)),
            ([A, B, FAA], (0, 1, 2)), ([FAA, FAB, ('f', A, A)], (0, 1, 0)), ([('f', FAA, A), ('f', A, FAA), FAA], (0, 1, 2)),
        ]:
            with self.subTest(trees=trees):
                self.assertEqual(pattern_of(SIGNS, trees), pattern)
                self.assertIs(type(pattern_of(SIGNS, trees)), tuple)

    def test_great_trees(self):
        one, other = wide_tree(4999), wide_tree(4999, [A] * 2499 + [B])
        self.assertEqual(pattern_of(SIGNS, [other, one, wide_tree(4999)]), (0, 1, 1))
        combs = [grown(leaf, lambda tree: ('f', tree, B), 39) for leaf in [A, B, A]]
        self.assertEqual(pattern_of(SIGNS, combs), (0, 1, 0))

    def test_lists_of_four(self):
        for trees in [[A, A, A, A], [A, B, FAA, FAB], [A] * 5, [A] * 3000]:
            with self.assertRaises(InvalidTrees):
                pattern_of(SIGNS, trees)

    def test_invalid_trees(self):
        for thing in odd_objects() + [(A,), (A, B), (), {0: A}, A, 'a', [('s', A)]]:
            # These two are lists of trees.
            if thing not in ([], [A]):
                with self.subTest(thing=str(thing)[:60]):
                    with self.assertRaises(InvalidTrees):
                        pattern_of(SIGNS, thing)
        for thing in odd_objects():
            for trees in [[thing], [A, thing], [thing, thing, thing], [A, B, thing]]:
                with self.assertRaises(InvalidTrees):
                    pattern_of(SIGNS, trees)


class StepTest(unittest.TestCase):
    def test_every_sign(self):
        book = asking_book()
        self.assertEqual(step(book, 'a', (), ()), ANY)
        for lots, lot in [((ANY,), ANY), ((('any', 'twin'),), ('any', 'over')), ((('twin',),), ('over',)), (((),), ()),
                          ((('same', 'twin'),), ('over',)), ((('deep', 'same'),), ('deep', 'over'))]:
            self.assertEqual(step(book, 's', lots, (0,)), lot)
        for lots, pattern, lot in [
            ((ANY, ANY), (0, 0), ('any', 'twin')), ((ANY, ANY), (0, 1), ('any', 'odd')),
            ((('any', 'twin'), ('any', 'odd')), (0, 1), ('any', 'beneath', 'odd')),
            ((('odd',), ('twin',)), (0, 1), ()), ((('any', 'nothing'), ANY), (0, 1), ('any', 'lost', 'odd')),
            (((), ANY), (0, 1), ()), ((ANY, ()), (0, 1), ()), (((), ()), (0, 0), ()),
        ]:
            self.assertEqual(step(book, 'f', lots, pattern), lot)
        wanted = [('any', 'same'), ANY, ('any', 'some'), ANY, ('any', 'apart')]
        for pattern, lot in zip(patterns(3), wanted):
            self.assertEqual(step(book, 'g', (ANY, ANY, ANY), pattern), lot)
        self.assertEqual(step(book, 'g', (ANY, ANY, ()), (0, 0, 2)), ())
        self.assertEqual(step(book, 'g', (ANY, ('any', 'odd'), ANY), (0, 1, 0)), ('any', 'some'))

    def test_a_book_without_rules(self):
        book = Book(ALL_SIGNS, [])
        for sign, brothers in ALL_SIGNS.items():
            for pattern in patterns(brothers):
                self.assertEqual(step(book, sign, ((),) * brothers, pattern), ())

    def test_lots_that_no_tree_has(self):
        book = example_book()
        self.assertEqual(step(book, 'f', (('full',), ('full',)), (0, 0)), ('full',))
        self.assertEqual(step(book, 'f', (('full',), ('full',)), (0, 1)), ())
        self.assertEqual(step(book, 'f', (('twin',), ('any', 'twin')), (0, 1)), ())
        self.assertEqual(step(book, 'f', (FULL, ('any', 'full', 'twin')), (0, 1)), ANY)

    def test_the_lot_of_a_tree(self):
        chance = random.Random(21)
        for lap in range(30):
            signs = [SIGNS, ALL_SIGNS, {'a': 0, 'b': 0, 'g': 3}][lap % 3]
            book = random_book(chance, signs, ['k', 'l', 'm'], 12)
            found = plain_trees(signs, 6)
            for tree in [tree for number in found for tree in chance.sample(found[number], min(5, len(found[number])))]:
                lots = tuple(lot_of(book, brother) for brother in tree[1:])
                pattern = pattern_of(signs, list(tree[1:]))
                self.assertEqual(step(book, tree[0], lots, pattern), lot_of(book, tree))

    def test_two_thousand_rules(self):
        letters = 'abcdefghijklmnopqrst'
        kinds = [one + two for one in letters for two in letters]
        rules = [(kind, 'f', (other, kind), asks)
                 for kind, other in zip(kinds, kinds[1:] + kinds[:1]) for asks in [(), ((0, 1, True),), ((0, 1, False),)]]
        book = Book(SIGNS, rules + rules[:800])
        self.assertEqual(step(book, 'f', (tuple(kinds), tuple(kinds)), (0, 1)), tuple(kinds))
        self.assertEqual(step(book, 'f', (tuple(kinds[1:]), tuple(kinds)), (0, 1)), tuple(kinds[:-1]))

    def test_unknown_sign(self):
        book = example_book()
        for sign in ODD_NAMES + odd_objects() + ['c', 'g', 'any', 'ab']:
            with self.subTest(sign=str(sign)[:60]):
                for lots, pattern in [((), ()), ((ANY, ANY), (0, 1)), (None, None)]:
                    with self.assertRaises(UnknownSign):
                        step(book, sign, lots, pattern)

    def test_invalid_lots(self):
        book = example_book()
        lots = [
            (), (ANY,), (ANY, ANY, ANY), [ANY, ANY], (ANY, ['any']), (['any'], ANY), ANY, ('any', 'any'), (ANY, 'any'),
            (('full', 'any'), ANY), (('any', 'any'), ANY), (ANY, ('any', 'twin', 'full')), (('none',), ANY),
            (ANY, ('any', 'none')), (ANY, ('a',)), (ANY, (None,)), (ANY, ('any', 0)), (ANY, (('any',),)), (ANY, (['any'],)),
            (ANY, ('any', {})), (ANY, {'any': True}), {0: ANY, 1: ANY}, None, 'any', (ANY, None), (None, ANY), (True, False),
            (ANY, ('any', '')), (ANY, ('any', 'ANY')), (ANY, (True,)), (ANY, ('any', 'full', 'full', 'twin')),
        ]
        for thing in lots + odd_objects() + [(ANY, thing) for thing in odd_objects() if thing != ()]:
            with self.subTest(lots=str(thing)[:60]):
                for pattern in [(0, 1), (0, 0), None]:
                    with self.assertRaises(InvalidLots):
                        step(book, 'f', thing, pattern)
        for thing in [((),), (ANY,), [], None, {}, '']:
            with self.assertRaises(InvalidLots):
                step(book, 'a', thing, ())
        # No kinds are kinds of a book without rules.
        with self.assertRaises(InvalidLots):
            step(Book(SIGNS, []), 'f', (ANY, ANY), (0, 0))

    def test_invalid_pattern(self):
        book = example_book()
        for pattern in [
            (), (0,), (0, 0, 0), (0, 1, 2), (1, 1), (1, 0), (0, 2), (0, -1), (-1, 1), (0, True), (False, 1), (False, False),
            (False, True), [0, 1], [0, 0], (0, '1'), (0, None), ((0,), (1,)), None, 0, 1, '01', {0: 0, 1: 1}, (0, 10 ** 39),
        ] + odd_objects():
            with self.subTest(pattern=str(pattern)[:60]):
                with self.assertRaises(InvalidPattern):
                    step(book, 'f', (ANY, ANY), pattern)
        for pattern in [None, [], (0,), '', {}, False, 0]:
            with self.assertRaises(InvalidPattern):
                step(book, 'a', (), pattern)

    def test_patterns_of_three(self):
        book = asking_book()
        for pattern in product(range(-1, 4), repeat=3):
            if pattern in patterns(3):
                self.assertIn('any', step(book, 'g', (ANY, ANY, ANY), pattern))
            else:
                with self.assertRaises(InvalidPattern):
                    step(book, 'g', (ANY, ANY, ANY), pattern)
        with self.assertRaises(InvalidPattern):
            step(book, 'g', (ANY, ANY, ANY), (0, 1, True))

    def test_brothers_with_unlike_lots_are_not_the_same(self):
        book = example_book()
        for lots in [(ANY, FULL), (FULL, ANY), ((), ANY), (ANY, ())]:
            self.assertIn(step(book, 'f', lots, (0, 1)), [ANY, ()])
            with self.assertRaises(InvalidPattern):
                step(book, 'f', lots, (0, 0))
        book = asking_book()
        lots = (ANY, ('any', 'odd'), ANY)
        told = {}
        for pattern in patterns(3):
            try:
                told[pattern] = step(book, 'g', lots, pattern)
            except InvalidPattern:
                told[pattern] = None
        self.assertEqual(told, {
            (0, 0, 0): None, (0, 0, 2): None, (0, 1, 0): ('any', 'some'), (0, 1, 1): None, (0, 1, 2): ('any', 'apart'),
        })


if __name__ == '__main__':
    unittest.main()
