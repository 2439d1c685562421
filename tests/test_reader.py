"""Readers, beside lists of the trees on the pile."""

import random
import unittest

from likeboughs.books import Book
from likeboughs.errors import InvalidBook, InvalidNumber, NothingToUndo, TooFew, UnknownSign
from likeboughs.nets import net_lots, net_of, net_sizes, same_nodes
from likeboughs.reader import Reader
from likeboughs.readings import lot_of
from tests.plain import plain_lot, plain_size, random_books
from tests.samples import A, ALL_SIGNS, ANY_RULES, B, ODD_NAMES, SIGNS, asking_book, example_book, odd_objects, short_book

INDEXES = [-1, -2, 10 ** 39, -10 ** 39, True, False, None, '0', 0.0, (0,), [0]]


class Model:
    """A pile of trees in a list, with all that was done to it."""

    def __init__(self, book, pile=(), before=()):
        self.book = book
        self.pile = list(pile)
        self.before = [list(row) for row in before]

    def put(self, sign):
        many = self.book.signs[sign]
        first = len(self.pile) - many
        self.before.append(list(self.pile))
        self.pile[first:] = [(sign, *self.pile[first:])]

    def again(self, index):
        self.before.append(list(self.pile))
        self.pile.append(self.pile[index])

    def undo(self):
        self.pile = self.before.pop()

    def copy(self):
        return Model(self.book, self.pile, self.before)


class ReaderTest(unittest.TestCase):
    def check(self, reader, model):
        """Check what a reader shows beside a list of trees, and that lists told are new."""
        known = {}
        wanted = [[plain_lot(model.book, tree, known) for tree in model.pile], [plain_size(tree) for tree in model.pile],
                  [model.pile.index(tree) for tree in model.pile]]
        for _ in range(2):
            told = [reader.lots, reader.sizes, reader.same]
            self.assertEqual(told, wanted)
            self.assertEqual([type(row) for row in told], [list] * 3)
            for row in told:
                row.append(None)
                row.reverse()
        self.assertEqual(len(reader), len(model.pile))

    def refuse(self, reader, model):
        """Check that calls that cannot be met raise errors and change nothing."""
        for sign in ODD_NAMES[:4] + ['c', ['f'], {'f': 2}, None, 0, True, ('f',)]:
            with self.assertRaises(UnknownSign):
                reader.put(sign)
        for sign, many in model.book.signs.items():
            if many > len(model.pile):
                with self.assertRaises(TooFew):
                    reader.put(sign)
        for index in INDEXES + [len(model.pile)]:
            with self.assertRaises(InvalidNumber):
                reader.again(index)
        if not model.before:
            with self.assertRaises(NothingToUndo):
                reader.undo()

    def step(self, chance, reader, model):
        """Do something to both that can be done."""
        signs = [sign for sign, many in model.book.signs.items() if many <= len(model.pile)]
        what = chance.choice(['put', 'put', 'put', 'again', 'undo'])
        if what == 'put' and signs:
            sign = chance.choice(signs)
            model.put(sign)
            self.assertEqual(reader.put(sign), plain_lot(model.book, model.pile[-1]))
        elif what == 'again' and model.pile:
            index = chance.randrange(len(model.pile))
            model.again(index)
            self.assertEqual(reader.again(index), plain_lot(model.book, model.pile[-1]))
        elif what == 'undo' and model.before:
            model.undo()
            self.assertIs(reader.undo(), None)

    def test_empty(self):
        for book in [example_book(), Book(SIGNS, []), asking_book(), Book({'f': 2}, [])]:
            reader, model = Reader(book), Model(book)
            self.check(reader, model)
            self.refuse(reader, model)
            self.check(reader, model)

    def test_what_is_told(self):
        reader = Reader(example_book())
        self.assertEqual([reader.put('a'), reader.put('b'), reader.put('f'), reader.again(0), reader.put('f')],
                         [('any', 'full'), ('any',), ('any',), ('any',), ('any', 'twin')])
        self.assertEqual([reader.lots, reader.sizes, reader.same, len(reader)], [[('any', 'twin')], [7], [0], 1])
        self.assertEqual([reader.undo(), reader.undo(), reader.lots, reader.same], [None, None, [('any',)], [0]])
        self.assertEqual([reader.put('a'), reader.put('a'), reader.same, reader.sizes], [('any', 'full')] * 2 + [[0, 1, 1], [3, 1, 1]])

    def test_order_of_brothers(self):
        book = Book({'a': 0, 'b': 0, 'g': 3}, [('k', 'a', (), ()), ('l', 'b', (), ()), ('m', 'g', ('k', 'l', 'k'), ((0, 2, True),)),
                                              ('n', 'g', ('k', 'k', 'l'), ())])
        for signs, lot in [('abag', ('m',)), ('aabg', ('n',)), ('baag', ()), ('bbag', ())]:
            reader = Reader(book)
            self.assertEqual([reader.put(sign) for sign in signs][-1], lot)

    def test_errors(self):
        reader, model = Reader(example_book()), Model(example_book())
        for sign in 'ab':
            reader.put(sign)
            model.put(sign)
        for thing in ODD_NAMES + odd_objects() + ['c', 'F', 'ff', '']:
            with self.subTest(thing=str(thing)[:60]):
                with self.assertRaises(UnknownSign) as caught:
                    reader.put(thing)
                self.assertIs(type(caught.exception), UnknownSign)
        for thing in odd_objects() + INDEXES + [2, 3]:
            with self.subTest(thing=str(thing)[:60]):
                with self.assertRaises(InvalidNumber) as caught:
                    reader.again(thing)
                self.assertIs(type(caught.exception), InvalidNumber)
        self.check(reader, model)
        for thing in [thing for thing in odd_objects() if not isinstance(thing, Book)] + [Book, SIGNS, reader]:
            with self.assertRaises(InvalidBook) as caught:
                Reader(thing)
            self.assertIs(type(caught.exception), InvalidBook)

    def test_unknown_sign_comes_ahead_of_too_few(self):
        reader = Reader(asking_book())
        for sign in ['s', 'f', 'g']:
            with self.assertRaises(TooFew):
                reader.put(sign)
        with self.assertRaises(UnknownSign):
            reader.put('h')
        reader.put('a')
        for sign in ['f', 'g']:
            with self.assertRaises(TooFew):
                reader.put(sign)
        reader.again(0)
        with self.assertRaises(TooFew):
            reader.put('g')
        self.assertEqual([reader.sizes, reader.again(1), reader.put('g'), len(reader)], [[1, 1], ('any',), ('any', 'same'), 1])

    def test_undo_of_each_call(self):
        book = asking_book()
        reader, model = Reader(book), Model(book)
        calls = [('put', 'a'), ('put', 's'), ('put', 'a'), ('again', 0), ('put', 'g'), ('again', 0), ('put', 'f'), ('put', 'a'), ('again', 1),
                 ('again', 0), ('put', 'g'), ('put', 's')]
        for name, thing in calls:
            getattr(reader, name)(thing)
            getattr(model, name)(thing)
            self.check(reader, model)
        for _ in calls:
            self.assertIs(reader.undo(), None)
            model.undo()
            self.check(reader, model)
            self.refuse(reader, model)
        for _ in range(3):
            with self.assertRaises(NothingToUndo):
                reader.undo()
        self.check(reader, model)
        self.assertEqual(reader.put('a'), ('any',))

    def test_copies(self):
        chance = random.Random(201)
        readers = [(Reader(asking_book()), Model(asking_book()))]
        for _ in range(400):
            reader, model = chance.choice(readers)
            if chance.random() < 0.05 and len(readers) < 12:
                readers.append((reader.copy(), model.copy()))
                self.assertIs(type(readers[-1][0]), Reader)
            else:
                self.step(chance, reader, model)
            self.check(reader, model)
        for reader, model in readers:
            self.check(reader, model)
            self.refuse(reader, model)
            while model.before:
                reader.undo()
                model.undo()
            self.check(reader, model)
            self.refuse(reader, model)

    def test_a_copy_goes_on_by_itself(self):
        reader = Reader(example_book())
        for sign in 'ab':
            reader.put(sign)
        other = reader.copy()
        third = other.copy()
        self.assertEqual([other.put('f'), other.undo(), other.undo(), other.lots], [('any',), None, None, [('any', 'full')]])
        self.assertEqual([reader.sizes, third.sizes, len(third)], [[1, 1], [1, 1], 2])
        self.assertEqual([third.put('f'), third.again(0), third.put('f'), reader.put('b'), reader.lots],
                         [('any',), ('any',), ('any', 'twin'), ('any',), [('any', 'full'), ('any',), ('any',)]])
        self.assertEqual([other.put('a'), other.put('f'), other.lots], [('any', 'full'), ('any', 'full', 'twin'), [('any', 'full', 'twin')]])

    def test_the_book_is_copied(self):
        signs, rules = dict(SIGNS), list(ANY_RULES)
        book = Book(signs, rules)
        reader = Reader(book)
        signs['c'] = 0
        rules.clear()
        book.rules.clear()
        book.signs.clear()
        self.assertEqual(reader.put('a'), ('any',))
        with self.assertRaises(UnknownSign):
            reader.put('c')

    def test_great_trees(self):
        reader = Reader(example_book())
        reader.put('a')
        size = 1
        for _ in range(400):
            reader.again(0)
            self.assertEqual(reader.put('f'), ('any', 'full', 'twin'))
            size = size + size + 1
            self.assertEqual([reader.sizes, reader.same, len(reader)], [[size], [0], 1])
        reader.put('b')
        for _ in range(150):
            reader.again(1)
            self.assertEqual(reader.put('f'), ('any', 'twin'))
        self.assertEqual(reader.sizes, [2 ** 401 - 1, 2 ** 151 - 1])
        self.assertEqual([reader.put('f'), reader.sizes], [('any',), [2 ** 401 + 2 ** 151 - 1]])
        # Trees of more than thirty figures that are equal are told to be the same.
        reader = Reader(asking_book())
        for _ in range(3):
            reader.put('a')
            for _ in range(70):
                reader.again(len(reader) - 1)
                reader.again(len(reader) - 1)
                reader.put('g')
        self.assertEqual([reader.same, reader.sizes], [[0, 0, 0], [(3 ** 71 - 1) // 2] * 3])
        self.assertEqual(reader.put('g'), ('any', 'same'))

    def test_deep_trees(self):
        reader = Reader(Book({'a': 0, 's': 1}, [('k', 'a', (), ()), ('l', 's', ('k',), ()), ('k', 's', ('l',), ())]))
        reader.put('a')
        for at in range(3000):
            self.assertEqual(reader.put('s'), ('l',) if at % 2 == 0 else ('k',))
        self.assertEqual([reader.sizes, len(reader)], [[3001], 1])
        for _ in range(3001):
            reader.undo()
        self.assertEqual(len(reader), 0)

    def test_some_thousand_calls(self):
        chance = random.Random(202)
        for book in [example_book(), asking_book()]:
            reader, model = Reader(book), Model(book)
            for at in range(3000):
                if len(model.pile) < 2 or (sum(map(plain_size, model.pile[-3:])) < 300 and chance.random() < 0.9):
                    self.step(chance, reader, model)
                elif model.before:
                    reader.undo()
                    model.undo()
                if at % 50 == 0:
                    self.check(reader, model)
            self.check(reader, model)

    def test_by_chance(self):
        chance = random.Random(203)
        for book, _ in random_books(203, 40):
            reader, model = Reader(book), Model(book)
            for _ in range(40):
                self.step(chance, reader, model)
                if sum(map(plain_size, model.pile)) > 400:
                    break
            self.check(reader, model)
            self.refuse(reader, model)
            self.check(reader, model)

    def test_beside_nets_and_plain_functions(self):
        for book in [example_book(), short_book()]:
            for tree in [A, B, ('f', ('f', A, B), ('f', A, B)), ('f', ('f', ('f', A, A), B), ('f', A, A))]:
                net = net_of(SIGNS, tree)
                reader = Reader(book)
                # Each node is put from copies of those that it stands above.
                where = []
                for sign, *numbers in net:
                    for number in numbers:
                        reader.again(where[number])
                    reader.put(sign)
                    where.append(len(reader) - 1)
                self.assertEqual([reader.lots, reader.sizes, reader.same],
                                 [net_lots(book, net), net_sizes(SIGNS, net), same_nodes(SIGNS, net)])
                self.assertEqual(reader.lots[-1], lot_of(book, tree))

    def test_all_signs(self):
        reader = Reader(Book(ALL_SIGNS, []))
        for sign in ['a', 'a', 'a', 'g', 's', 'a', 'f']:
            self.assertEqual(reader.put(sign), ())
        self.assertEqual([reader.sizes, reader.lots], [[7], [()]])

    def test_parameters_by_name(self):
        reader = Reader(book=example_book())
        self.assertEqual([reader.put(sign='a'), reader.again(index=0), reader.put(sign='f')],
                         [('any', 'full'), ('any', 'full'), ('any', 'full', 'twin')])


if __name__ == '__main__':
    unittest.main()
