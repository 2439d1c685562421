"""Which objects are tables."""

import unittest

from likeboughs.books import Book
from likeboughs.tables import is_table, table
from tests.plain import is_closed, plain_lot, plain_trees, random_books
from tests.samples import A, B, SIGNS, example_book, grown, odd_objects, short_book

FAA, FAB, FBA, FBB = ('f', A, A), ('f', A, B), ('f', B, A), ('f', B, B)
OTHERS = [FAA, FBB, ('f', FAA, A), ('f', FAB, FBA)]
SHORT = [((), OTHERS), (('leaf',), [A, B]), (('pair',), [FAB, FBA])]


def with_row(rows, at, row):
    return rows[:at] + [row] + rows[at + 1:]


class ShortTableTest(unittest.TestCase):
    def setUp(self):
        self.book = short_book()

    def check(self, thing, wanted):
        self.assertIs(is_table(self.book, thing), wanted)

    def test_tables(self):
        self.check(SHORT, True)
        self.check(table(self.book), True)

    def test_rows_in_another_order(self):
        for rows in [SHORT[::-1], SHORT[1:] + SHORT[:1], [SHORT[2], SHORT[0], SHORT[1]]]:
            self.check(rows, True)

    def test_rows_left_out(self):
        for at in range(3):
            self.check(SHORT[:at] + SHORT[at + 1:], False)
            self.check([SHORT[at]], False)
        self.check([], False)

    def test_rows_put_in_or_doubled(self):
        for at in range(3):
            self.check(SHORT + [SHORT[at]], False)
            self.check([SHORT[at]] + SHORT, False)
        for row in [(('none',), [FAA]), (('leaf', 'pair'), [A]), (('none',), [('f', FAA, B)]), ((), [('f', FAA, B)]),
                    (('leaf',), [B]), (('pair',), [FBA]), (('none',), []), None, (), [], SHORT[0][1]]:
            self.check(SHORT + [row], False)
            self.check([row] + SHORT, False)

    def test_trees_in_another_order(self):
        self.check(with_row(SHORT, 0, ((), OTHERS[::-1])), True)
        self.check(with_row(SHORT, 1, (('leaf',), [B, A])), True)
        self.check(with_row(SHORT, 2, (('pair',), [FBA, FAB])), True)

    def test_other_trees(self):
        for tree in [('f', A, FAA), ('f', FBB, FBB), grown(A, lambda tree: ('f', tree, B), 39),
                     grown(A, lambda tree: ('f', tree, tree), 11)]:
            for at in range(4):
                self.check(with_row(SHORT, 0, ((), with_row(OTHERS, at, tree))), True)

    def test_trees_left_out(self):
        for at in range(4):
            self.check(with_row(SHORT, 0, ((), OTHERS[:at] + OTHERS[at + 1:])), False)
        self.check(with_row(SHORT, 0, ((), [FAA])), False)
        for tree in [A, B]:
            self.check(with_row(SHORT, 1, (('leaf',), [tree])), False)
        for tree in [FAB, FBA]:
            self.check(with_row(SHORT, 2, (('pair',), [tree])), False)

    def test_rows_without_trees(self):
        for at in range(3):
            self.check(with_row(SHORT, at, (SHORT[at][0], [])), False)

    def test_trees_put_in_or_doubled(self):
        self.check(with_row(SHORT, 0, ((), OTHERS + [('f', A, FAA)])), False)
        self.check(with_row(SHORT, 0, ((), OTHERS + OTHERS[:1])), False)
        self.check(with_row(SHORT, 0, ((), OTHERS[:3] + [('f', A, A)])), False)
        for trees in [[A, A], [A, B, A], [A, B, B], [A, B, FAA], [A, B, FAB], [B, A, A, B]]:
            self.check(with_row(SHORT, 1, (('leaf',), trees)), False)
        self.check(with_row(SHORT, 2, (('pair',), [FAB, FBA, ('f', A, B)])), False)
        self.check(with_row(SHORT, 0, ((), [FAA] * 4000)), False)

    def test_trees_of_another_lot(self):
        for at in range(3):
            for tree in [A, FAA, FAB]:
                lot, trees = SHORT[at]
                if plain_lot(self.book, tree) != lot:
                    for place in range(len(trees)):
                        self.check(with_row(SHORT, at, (lot, with_row(trees, place, tree))), False)
        for at, other in [(0, 1), (0, 2), (1, 2)]:
            rows = with_row(with_row(SHORT, at, (SHORT[at][0], SHORT[other][1])), other, (SHORT[other][0], SHORT[at][1]))
            self.check(rows, False)

    def test_other_lots(self):
        for lot in [(), ('pair',), ('none',), ('leaf', 'leaf'), ('leaf', 'pair'), ('f',), 'leaf', ['leaf'], ('leaf', ''),
                    {'leaf': True}, (('leaf',),), None, (None,), True, 0, (0,), ('Leaf',), ('leaf', None)]:
            self.check(with_row(SHORT, 1, (lot, [A, B])), False)
        for lot in [[], None, False, 0, '', {}, ((),), ('',)]:
            self.check(with_row(SHORT, 0, (lot, OTHERS)), False)

    def test_lists_and_tuples(self):
        self.check(tuple(SHORT), False)
        self.check({lot: trees for lot, trees in SHORT}, False)
        for at, (lot, trees) in enumerate(SHORT):
            for row in [[lot, trees], (lot, tuple(trees)), (lot, {tree: True for tree in trees}), (lot,), (lot, trees, trees),
                        (lot, trees, None), (trees, lot), (lot, [trees]), (lot, *trees), {lot: trees}, lot, trees]:
                self.check(with_row(SHORT, at, row), False)
            self.check(with_row(SHORT, at, (lot, [list(tree) for tree in trees])), False)

    def test_objects_of_all_kinds_in_each_place(self):
        for thing in odd_objects():
            with self.subTest(thing=str(thing)[:60]):
                self.check(thing, False)
                self.check([thing], False)
                for at, (lot, trees) in enumerate(SHORT):
                    self.check(with_row(SHORT, at, thing), False)
                    self.check(SHORT + [thing], False)
                    self.check(with_row(SHORT, at, (thing, trees)), thing == lot and isinstance(thing, tuple))
                    self.check(with_row(SHORT, at, (lot, thing)), False)
                    for place in range(len(trees)):
                        self.check(with_row(SHORT, at, (lot, with_row(trees, place, thing))), False)

    def test_great_objects(self):
        self.check(SHORT * 2000, False)
        self.check([(('leaf',), [A])] * 20000, False)
        self.check([((), [grown(A, lambda tree: ('f', tree, tree), 11)] * 4)], False)
        self.check([(('leaf',), [A, B])] + [((str(at),), [A]) for at in range(10000)], False)


class IsTableTest(unittest.TestCase):
    def test_no_trees_and_one_tree(self):
        self.assertIs(is_table(Book({'a': 0}, []), [((), [A])]), True)
        self.assertIs(is_table(Book({'a': 0}, []), []), False)
        self.assertIs(is_table(Book({'a': 0}, [('k', 'a', (), ())]), [((), [A])]), False)
        self.assertIs(is_table(Book({'a': 0}, [('k', 'a', (), ())]), [(('k',), [A])]), True)
        self.assertIs(is_table(Book({'f': 2}, []), []), True)

    def test_four_of_a_lot_are_enough(self):
        book = Book(SIGNS, [])
        trees = [A, B, FAA, FAB, FBA, FBB]
        self.assertIs(is_table(book, [((), trees[:4])]), True)
        self.assertIs(is_table(book, [((), trees[2:])]), True)
        for many in [0, 1, 2, 3, 5, 6]:
            self.assertIs(is_table(book, [((), trees[:many])]), False)

    def test_the_table_of_another_book(self):
        rows = table(example_book())
        self.assertIs(is_table(example_book(), rows), True)
        self.assertIs(is_table(short_book(), rows), False)
        self.assertIs(is_table(example_book(), SHORT), False)
        self.assertIs(is_table(Book({'a': 0, 'b': 0, 'f': 3}, []), rows), False)

    def test_beside_the_long_way(self):
        for book, held in random_books(41, 40):
            rows = sorted(held.items())
            self.assertIs(is_table(book, rows), True)
            self.assertIs(is_table(book, rows[::-1]), True)
            for at, (lot, trees) in enumerate(rows):
                self.assertIs(is_table(book, rows[:at] + rows[at + 1:]), False)
                for place in range(len(trees)):
                    fewer = with_row(rows, at, (lot, trees[:place] + trees[place + 1:]))
                    wanted = len(trees) > 1 and is_closed(book, fewer)
                    self.assertIs(is_table(book, fewer), wanted)
            known = {}
            for tree in [tree for found in plain_trees(book.signs, 5).values() for tree in found][:60]:
                lot = plain_lot(book, tree, known)
                trees = held[lot]
                for place in range(len(trees)):
                    others = with_row(sorted(held.items()), sorted(held).index(lot), (lot, with_row(trees, place, tree)))
                    wanted = tree not in trees or tree == trees[place]
                    self.assertIs(is_table(book, others), wanted)


if __name__ == '__main__':
    unittest.main()
