"""Numbers of trees of a kind, lists of them, and places in these lists."""

import unittest
from unittest.mock import patch

from likeboughs.books import Book
from likeboughs.counting import count, listed, place_of, tree_at
from likeboughs.errors import InvalidNumber, InvalidTree, TooMany
from likeboughs.makers import Maker
from likeboughs.trees import is_less
from tests.plain import plain_lot, plain_size, plain_trees, random_books
from tests.samples import (
    A, ALL_SIGNS, ANY_RULES, B, SIGNS, asking_book, example_book, grown, odd_objects, short_book, wide_tree,
)

FAA, FAB, FBA, FBB = ('f', A, A), ('f', A, B), ('f', B, A), ('f', B, B)
ODD_SIZES = [0, -1, 41, 42, -40, 10 ** 39, True, False, None, '3', '', (3,), [3], {3: 3}, A] + odd_objects()


def bound_book():
    """A book with a thousand trees of size 5 of the kind any, and one more of the kind more."""
    signs = {'a': 0, 'b': 0, 'c': 0, 'd': 0, 'e': 0, 'f': 2, 'g': 2, 's': 1}
    rules = [('any', leaf, (), ()) for leaf in 'abcde'] + [('any', sign, ('any', 'any'), ()) for sign in 'fg']
    rules += [('more', sign, ('any', 'any'), ()) for sign in 'fg'] + [('more', 's', ('four',), ())]
    chain = [('one', 'a', (), ()), ('two', 's', ('one',), ()), ('three', 's', ('two',), ()), ('four', 's', ('three',), ())]
    return Book(signs, rules + chain)


class CountTest(unittest.TestCase):
    def check_all(self, book, most):
        """Count and list each kind and size beside a search through all trees."""
        known = {}
        for size, trees in plain_trees(book.signs, most).items():
            lots = [plain_lot(book, tree, known) for tree in trees]
            for kind in book.kinds + ['none']:
                wanted = [tree for tree, lot in zip(trees, lots) if kind in lot]
                self.assertEqual(count(book, kind, size), len(wanted))
                if len(wanted) <= 1000:
                    self.assertEqual(listed(book, kind, size), wanted)
                    for index in sorted({0, len(wanted) // 2, len(wanted) - 1}):
                        if 0 <= index < len(wanted):
                            self.assertEqual(tree_at(book, kind, size, index), wanted[index])
                            self.assertEqual(place_of(book, kind, wanted[index]), index)
                else:
                    with self.assertRaises(TooMany):
                        listed(book, kind, size)

    def test_books_of_the_document(self):
        self.check_all(example_book(), 9)
        self.check_all(short_book(), 7)
        self.check_all(asking_book(), 6)

    def test_random_books(self):
        for book, _ in random_books(51, 27):
            with self.subTest(rules=book.rules):
                self.check_all(book, 7)

    def test_each_sort_of_asks_of_three_brothers(self):
        leaves = [('any', 'a', (), ()), ('any', 'b', (), ()), ('any', 's', ('any',), ())]
        for asks in [
            (), ((0, 1, True),), ((0, 2, True),), ((1, 2, True),), ((0, 1, False),), ((0, 2, False),), ((1, 2, False),),
            ((0, 1, True), (0, 2, True)), ((0, 1, True), (0, 2, False)), ((0, 1, False), (1, 2, True)),
            ((0, 1, False), (0, 2, False)), ((0, 1, False), (0, 2, False), (1, 2, False)), ((0, 1, False), (0, 1, True)),
            ((0, 1, True), (0, 2, True), (1, 2, False)),
        ]:
            with self.subTest(asks=asks):
                signs = {'a': 0, 'b': 0, 's': 1, 'g': 3}
                self.check_all(Book(signs, leaves + [('k', 'g', ('any', 'any', 'any'), asks)]), 7)
                # Brothers that are themselves such trees.
                self.check_all(Book({'a': 0, 'g': 3}, [('k', 'a', (), ()), ('k', 'g', ('k', 'k', 'k'), asks)]), 10)

    def test_asks_between_kinds_that_differ(self):
        rules = ANY_RULES + [('k', 'f', ('any', 'leaf'), ((0, 1, False),)), ('leaf', 'a', (), ()), ('leaf', 'b', (), ())]
        self.check_all(Book(SIGNS, rules + [('l', 'f', ('leaf', 'any'), ((0, 1, True),)), ('l', 'f', ('k', 'k'), ())]), 9)

    def test_several_rules_make_one_tree_but_once(self):
        book = Book(SIGNS, ANY_RULES * 3 + [('any', 'f', ('any', 'any'), ((0, 1, True),))])
        self.assertEqual([count(book, 'any', size) for size in [1, 3, 5]], [2, 4, 16])
        self.assertEqual(listed(book, 'any', 3), [FAA, FAB, FBA, FBB])

    def test_great_numbers(self):
        # Of n leaves with a sign above each two there are Catalan's many, times a power of the leaves.
        book = Book(SIGNS, ANY_RULES)
        catalan = [1]
        for _ in range(20):
            catalan.append(sum(catalan[at] * catalan[-1 - at] for at in range(len(catalan))))
        for size in range(1, 41):
            leaves = (size + 1) // 2
            wanted = catalan[leaves - 1] * 2 ** leaves if size % 2 else 0
            self.assertEqual(count(book, 'any', size), wanted)
            self.assertEqual(count(example_book(), 'any', size), wanted)
        self.assertEqual(count(book, 'any', 39), 1853109766717440)
        signs = {'a': 0, 'b': 0, 's': 1, 't': 1, 'f': 2, 'g': 3}
        free = Book(signs, [('any', sign, ('any',) * brothers, ()) for sign, brothers in signs.items()])
        self.assertEqual(count(free, 'any', 40), self.numbers(signs, 40)[40])
        self.assertEqual(type(count(free, 'any', 40)), int)

    def numbers(self, signs, most):
        """How many trees there are of each size, by sums over all shares of the places."""
        many = [0] * (most + 1)
        for size in range(1, most + 1):
            rows = [[1] + [0] * most]
            for _ in range(3):
                rows.append([sum(rows[-1][rest - part] * many[part] for part in range(1, rest + 1))
                             for rest in range(most + 1)])
            many[size] = sum(rows[brothers][size - 1] for brothers in signs.values())
        return many

    def test_twins_and_others(self):
        book = Book(SIGNS, ANY_RULES + [
            ('twin', 'f', ('any', 'any'), ((0, 1, True),)), ('odd', 'f', ('any', 'any'), ((0, 1, False),)),
            ('both', 'f', ('any', 'any'), ((0, 1, False), (0, 1, True))),
        ])
        for size in range(2, 40):
            half = count(book, 'any', (size - 1) // 2) if size > 2 and size % 2 else 0
            self.assertEqual(count(book, 'twin', size), half)
            self.assertEqual(count(book, 'odd', size), count(book, 'any', size) - half)
            self.assertEqual(count(book, 'both', size), 0)

    def test_least_and_greatest_sizes(self):
        book = Book({'a': 0, 's': 1}, [('k', 'a', (), ()), ('k', 's', ('k',), ())])
        self.assertEqual([count(book, 'k', size) for size in range(1, 41)], [1] * 40)
        self.assertEqual(listed(book, 'k', 1), [A])
        last = grown(A, lambda tree: ('s', tree), 39)
        self.assertEqual(listed(book, 'k', 40), [last])
        self.assertEqual([tree_at(book, 'k', 40, 0), place_of(book, 'k', last)], [last, 0])

    def test_kinds_and_signs_without_trees(self):
        book = asking_book()
        for kind in ['none', 'never', 'lost', 'deep', 'nothing', 'a']:
            for size in [1, 2, 9]:
                self.assertEqual([count(book, kind, size), listed(book, kind, size)], [0, []])
        self.assertEqual([count(example_book(), 'none', 39), listed(example_book(), 'none', 39)], [0, []])
        for book in [Book(SIGNS, []), Book({'f': 2}, []), Book({'f': 2}, [('k', 'f', ('k', 'k'), ())])]:
            for size in [1, 3, 40]:
                self.assertEqual([count(book, 'k', size), listed(book, 'k', size)], [0, []])

    def test_two_thousand_rules(self):
        book = Book(SIGNS, ANY_RULES + [('twin', 'f', ('any', 'any'), ((0, 1, True),))] * 1997)
        self.assertEqual(count(book, 'twin', 39), count(book, 'any', 19))
        self.assertEqual(len(listed(book, 'any', 9)), 448)

    def test_invalid_number(self):
        for size in ODD_SIZES:
            with self.subTest(size=str(size)[:60]):
                for kind in ['any', 'none']:
                    for call in [count, listed]:
                        with self.assertRaises(InvalidNumber):
                            call(example_book(), kind, size)
                    with self.assertRaises(InvalidNumber):
                        tree_at(example_book(), kind, size, 0)


class ManyCallsTest(unittest.TestCase):
    """Books that are asked often, and many books that are asked one behind another."""

    def book(self):
        return Book(SIGNS, [
            ('k', 'a', (), ()), ('k', 'b', (), ()), ('k', 'f', ('k', 'k'), ()), ('l', 'f', ('k', 'k'), ((0, 1, True),)),
            ('m', 'f', ('k', 'k'), ((0, 1, False),)), ('n', 'a', (), ()), ('n', 'f', ('n', 'n'), ((0, 1, True),)),
        ])

    def triple_book(self):
        return Book({'a': 0, 't': 3, 'c': 0}, [
            ('k', 'a', (), ()), ('k', 'c', (), ()), ('l', 't', ('k', 'k', 'l'), ((0, 1, True),)), ('l', 'c', (), ()),
            ('k', 't', ('l', 'k', 'k'), ((0, 2, False),)), ('l', 't', ('k', 'k', 'k'), ()),
        ])

    def test_calls_at_small_and_great_sizes(self):
        wanted = {
            ('k', 1): 2, ('k', 3): 4, ('l', 1): 0, ('l', 3): 2, ('m', 1): 0, ('m', 3): 2, ('n', 1): 1, ('n', 3): 1,
            ('k', 11): 2688, ('l', 11): 16, ('m', 11): 2672, ('k', 2): 0, ('l', 2): 0, ('m', 2): 0, ('n', 31): 1,
            ('k', 39): 1853109766717440, ('l', 40): 0,
        }
        self.assertEqual(len(wanted), 17)
        for _ in range(3):
            self.assertEqual({call: count(self.book(), *call) for call in wanted}, wanted)
            self.assertEqual({call: count(self.book(), *call) for call in reversed(wanted)}, wanted)
        book = self.book()
        self.assertEqual({call: count(book, *call) for call in wanted}, wanted)

    def test_three_brothers(self):
        book = self.triple_book()
        self.assertEqual([count(book, 'k', size) for size in (1, 7, 10, 40)], [2, 38, 322, 212723794458874])
        self.assertEqual(count(book, 'l', 40), 261270541004968)
        trees = plain_trees(book.signs, 10)
        known = {}
        for size in trees:
            for kind in ['k', 'l', 'm']:
                self.assertEqual(count(book, kind, size), sum(kind in plain_lot(book, tree, known) for tree in trees[size]))

    def test_many_books_one_behind_another(self):
        books = [self.book(), self.triple_book(), example_book(), short_book()] + [book for book, _ in random_books(52, 60)]
        told = [[count(book, kind, size) for kind in book.kinds for size in (1, 2, 3, 11)] for book in books]
        self.assertEqual([[count(book, kind, size) for kind in book.kinds for size in (1, 2, 3, 11)] for book in books], told)
        self.assertEqual([[count(Book(book.signs, book.rules), kind, size) for kind in book.kinds for size in (1, 2, 3, 11)]
                          for book in reversed(books)], told[::-1])
        for book, row in zip(books, told):
            lots = [{}, {}, {}, {}]
            for size in (1, 2, 3):
                for tree in plain_trees(book.signs, 3)[size]:
                    for kind in plain_lot(book, tree):
                        lots[size][kind] = lots[size].get(kind, 0) + 1
            for at, kind in enumerate(book.kinds):
                self.assertEqual(row[4 * at:4 * at + 3], [lots[size].get(kind, 0) for size in (1, 2, 3)])

    def test_small_sizes_look_at_few_steps(self):
        looked = []
        told = Maker.told

        def watched(maker, sign, row):
            looked.append((sign, row))
            return told(maker, sign, row)

        with patch.object(Maker, 'told', watched):
            for kind in 'klmn':
                count(self.book(), kind, 1)
                self.assertEqual(looked, [('a', ()), ('b', ())])
                looked.clear()
            count(self.book(), 'k', 40)
            # The kind k hangs on none of the other kinds, so that it has one lot.
            self.assertEqual(len(looked), 3)


class ListedTest(unittest.TestCase):
    def test_ascending_in_the_order_of_trees(self):
        book = asking_book()
        for kind in book.kinds:
            told = listed(book, kind, 7)
            self.assertTrue(all(is_less(ALL_SIGNS, told[at], told[at + 1]) for at in range(len(told) - 1)))
            self.assertEqual({plain_size(tree) for tree in told}, {7} if told else set())

    def test_a_thousand_and_one_more(self):
        book = bound_book()
        self.assertEqual([count(book, 'any', 5), count(book, 'more', 5)], [1000, 1001])
        told = listed(book, 'any', 5)
        self.assertEqual([len(told), len(set(told)), told], [1000, 1000, sorted(told)])
        self.assertEqual([tree_at(book, 'any', 5, 0), tree_at(book, 'any', 5, 999)], [told[0], told[999]])
        self.assertEqual([place_of(book, 'any', told[0]), place_of(book, 'any', told[999])], [0, 999])
        last = grown(A, lambda tree: ('s', tree), 4)
        for call in [
            lambda: listed(book, 'more', 5), lambda: tree_at(book, 'more', 5, 0), lambda: tree_at(book, 'more', 5, 1000),
            lambda: place_of(book, 'more', told[0]), lambda: place_of(book, 'more', last),
        ]:
            with self.assertRaises(TooMany):
                call()

    def test_few_trees_among_no_end_of_others(self):
        book = example_book()
        full = grown(A, lambda tree: ('f', tree, tree), 4)
        self.assertEqual(listed(book, 'full', 31), [full])
        self.assertEqual([tree_at(book, 'full', 31, 0), place_of(book, 'full', full)], [full, 0])
        for size in [2, 29, 30, 33, 40]:
            self.assertEqual(listed(book, 'full', size), [])
        with self.assertRaises(TooMany):
            listed(book, 'any', 31)
        # The brothers may be any trees, but those of one of them leave the other no places.
        comb = Book(SIGNS, ANY_RULES + [('k', 'a', (), ()), ('k', 'f', ('k', 'leaf'), ()), ('leaf', 'b', (), ())])
        tree = grown(A, lambda tree: ('f', tree, B), 19)
        self.assertEqual([listed(comb, 'k', 39), listed(comb, 'k', 40)], [[tree], []])
        self.assertEqual([count(comb, 'k', 39), place_of(comb, 'k', tree)], [1, 0])

    def test_too_many(self):
        book = example_book()
        for size in [11, 21, 39]:
            with self.assertRaises(TooMany):
                listed(book, 'any', size)
        self.assertEqual([len(listed(book, 'any', 9)), listed(book, 'any', 40)], [448, []])


class TreeAtTest(unittest.TestCase):
    def test_there_and_back(self):
        for book, size in [(example_book(), 7), (short_book(), 3), (asking_book(), 6)]:
            for kind in book.kinds:
                told = listed(book, kind, size)
                for index, tree in enumerate(told):
                    if index % 7 == 0 or index == len(told) - 1:
                        self.assertEqual(tree_at(book, kind, size, index), tree)
                        self.assertEqual(place_of(book, kind, tree), index)

    def test_indexes(self):
        book = example_book()
        self.assertEqual(tree_at(book, 'any', 3, 3), FBB)
        for index in [-1, -4, 4, 5, 10 ** 39, -10 ** 39, True, False, None, '0', (0,), [0], {0: 0}] + odd_objects():
            with self.subTest(index=str(index)[:60]):
                with self.assertRaises(InvalidNumber):
                    tree_at(book, 'any', 3, index)
        for index in [0, -1, 1]:
            for kind, size in [('any', 2), ('none', 1), ('twin', 1), ('any', 40)]:
                with self.assertRaises(InvalidNumber):
                    tree_at(book, kind, size, index)

    def test_no_such_index_comes_ahead_of_too_many(self):
        book = example_book()
        many = count(book, 'any', 39)
        for index in [0, 999, 1000, many - 1]:
            with self.assertRaises(TooMany):
                tree_at(book, 'any', 39, index)
        for index in [-1, many, many + 1, True, None]:
            with self.assertRaises(InvalidNumber):
                tree_at(book, 'any', 39, index)


class PlaceOfTest(unittest.TestCase):
    def test_places(self):
        book = example_book()
        self.assertEqual([place_of(book, 'any', tree) for tree in [A, B, FAA, FAB, FBA, FBB]], [0, 1, 0, 1, 2, 3])
        self.assertEqual([place_of(book, 'twin', FBB), place_of(book, 'full', A), place_of(book, 'full', FAA)], [1, 0, 0])

    def test_trees_that_are_not_of_the_kind(self):
        book = example_book()
        for kind, tree in [('twin', A), ('twin', FAB), ('full', B), ('full', FBB), ('none', A), ('none', FAA)]:
            with self.assertRaises(InvalidTree):
                place_of(book, kind, tree)

    def test_sizes_of_forty_and_beyond(self):
        book = Book({'a': 0, 's': 1, 'f': 2}, [
            ('k', 'a', (), ()), ('k', 's', ('k',), ()), ('any', 'a', (), ()), ('any', 's', ('any',), ()),
            ('any', 'f', ('any', 'any'), ()),
        ])
        tree = grown(A, lambda tree: ('s', tree), 39)
        self.assertEqual(place_of(book, 'k', tree), 0)
        with self.assertRaises(TooMany):
            place_of(book, 'any', tree)
        for longer in [('s', tree), ('f', tree, A), ('f', tree, tree), ('s', ('s', tree))]:
            for kind in ['k', 'any']:
                with self.assertRaises(InvalidTree):
                    place_of(book, kind, longer)
        # Not of the kind comes ahead of too many, too.
        with self.assertRaises(InvalidTree):
            place_of(book, 'k', ('f', A, grown(A, lambda tree: ('s', tree), 30)))
        with self.assertRaises(InvalidTree):
            place_of(example_book(), 'any', wide_tree(41))
        with self.assertRaises(InvalidTree):
            place_of(example_book(), 'any', wide_tree(4999))
        with self.assertRaises(TooMany):
            place_of(example_book(), 'any', wide_tree(39))

    def test_no_trees(self):
        for tree in odd_objects() + [('s', A), ('f', A), ('a', A), ['f', A, A], ('f', A, ['a'])]:
            with self.subTest(tree=str(tree)[:60]):
                for kind in ['any', 'none']:
                    with self.assertRaises(InvalidTree):
                        place_of(example_book(), kind, tree)


if __name__ == '__main__':
    unittest.main()
