"""Which objects are readings."""

import unittest

from likeboughs.books import Book
from likeboughs.readings import is_reading, reading
from tests.plain import plain_readings
from tests.samples import A, ANY_RULES, B, SIGNS, asking_book, example_book, odd_objects

FAA, FAB, FBA = ('f', A, A), ('f', A, B), ('f', B, A)
S = ('s', A)
TOLD = (2, (2, (0,), (1,)), (0,))
TREE = ('f', FAB, A)


def exchanged(thing, path, other):
    """A tuple in which what stands at the end of a path of indexes is another object."""
    if path == ():
        return other
    at = path[0]
    return (*thing[:at], exchanged(thing[at], path[1:], other), *thing[at + 1:])


def paths_of(thing):
    """The paths to all objects within a tuple, itself, too."""
    inner = [(at, *path) for at, part in enumerate(thing) for path in paths_of(part)] if isinstance(thing, tuple) else []
    return [(), *inner]


class IsReadingTest(unittest.TestCase):
    def test_the_only_reading(self):
        book = example_book()
        self.assertEqual(plain_readings(book, 'any', TREE), [TOLD])
        self.assertIs(is_reading(book, 'any', TREE, TOLD), True)
        self.assertIs(is_reading(book, 'any', TREE, reading(book, 'any', TREE)), True)

    def test_anything_else_in_its_places(self):
        book = example_book()
        things = odd_objects() + [0, 1, 2, 3, 4, 5, 6, -1, -4, -6, True, False, (0,), (1,), (4,), (2, (0,), (1,)), A, TREE]
        for path in paths_of(TOLD):
            for other in things:
                thing = exchanged(TOLD, path, other)
                with self.subTest(path=path, other=str(other)[:60]):
                    # An equal tuple may hold a bool in the place of an index.
                    is_told = thing == TOLD and not isinstance(other, bool)
                    self.assertIs(is_reading(book, 'any', TREE, thing), is_told)

    def test_another_rule(self):
        book = example_book()
        self.assertEqual([is_reading(book, 'any', A, (index,)) for index in range(6)], [True] + [False] * 5)
        self.assertEqual([is_reading(book, 'full', A, (index,)) for index in range(6)], [False] * 4 + [True, False])
        self.assertEqual([is_reading(book, 'twin', FAA, (index, (0,), (0,))) for index in range(6)],
                         [False, False, False, True, False, False])
        # The second rule would make the tree, but not out of these readings.
        book = Book(SIGNS, ANY_RULES + [('any', 'f', ('leaf', 'leaf'), ()), ('leaf', 'a', (), ())])
        self.assertEqual([is_reading(book, 'any', FAA, (index, (0,), (0,))) for index in [2, 3]], [True, False])
        self.assertEqual([is_reading(book, 'any', FAA, (index, (4,), (4,))) for index in [2, 3]], [False, True])
        self.assertIs(is_reading(book, 'any', FAA, (3, (0,), (4,))), False)

    def test_no_such_rule(self):
        book = example_book()
        for index in [6, 7, 2000, 10 ** 39, -1, -2, -6, -7, True, False, None, '0', (), (0,), [0], {0: 0}]:
            self.assertIs(is_reading(book, 'any', A, (index,)), False)
            self.assertIs(is_reading(book, 'any', FAA, (2, (0,), (index,))), False)
        self.assertIs(is_reading(Book(SIGNS, []), 'any', A, (0,)), False)
        # Counted from the end, these rules would make the tree.
        self.assertIs(is_reading(book, 'any', A, (-6,)), False)
        last = Book(SIGNS, [('any', 'b', (), ()), ('any', 'a', (), ())])
        self.assertEqual([is_reading(last, 'any', A, (index,)) for index in [-1, 0, 1, 2, True]],
                         [False, False, True, False, False])
        self.assertIs(is_reading(book, 'any', B, (True,)), False)
        self.assertIs(is_reading(book, 'any', A, (False,)), False)

    def test_brothers_too_many_or_too_few(self):
        book = example_book()
        for thing in [(), (2,), (2, (0,)), (2, (0,), (0,), (0,)), (2, (0,), (0,), ()), (2, ((0,), (0,))), ((2, (0,), (0,)),)]:
            self.assertIs(is_reading(book, 'any', FAA, thing), False)
        for thing in [(), (0, (0,)), (0, ()), (0, None), ((0,),), 0]:
            self.assertIs(is_reading(book, 'any', A, thing), False)
            self.assertIs(is_reading(book, 'any', FAA, (2, (0,), thing)), False)

    def test_lists(self):
        book = example_book()
        for thing in [[2, (0,), (0,)], (2, [0], (0,)), (2, (0,), [0]), [2, [0], [0]], {2: (0,)}]:
            self.assertIs(is_reading(book, 'any', FAA, thing), False)
        self.assertIs(is_reading(book, 'any', A, [0]), False)

    def test_asks_that_do_not_hold(self):
        book = example_book()
        self.assertIs(is_reading(book, 'twin', FAA, (3, (0,), (0,))), True)
        self.assertIs(is_reading(book, 'twin', FAB, (3, (0,), (1,))), False)
        self.assertIs(is_reading(book, 'full', FAA, (5, (4,), (4,))), True)
        book = asking_book()
        rows = [(A, A, A), (S, S, A), (S, A, S), (A, S, S), (A, S, ('s', S))]
        for index, kind, wanted in [(4, 'same', [0]), (5, 'some', [2]), (6, 'apart', [4]), (3, 'any', [0, 1, 2, 3, 4])]:
            for at, row in enumerate(rows):
                thing = (index, *[reading(book, 'any', brother) for brother in row])
                self.assertIs(is_reading(book, kind, ('g', *row), thing), at in wanted)
        for brothers in [(A, A), (A, S)]:
            thing = (9, *[reading(book, 'any', brother) for brother in brothers])
            self.assertIs(is_reading(book, 'never', ('f', *brothers), thing), False)
        # The ask does not hold of the brothers of a brother.
        inner = Book(SIGNS, ANY_RULES + [('k', 'f', ('l', 'any'), ()), ('l', 'f', ('any', 'any'), ((0, 1, False),))])
        self.assertIs(is_reading(inner, 'k', ('f', FAB, A), (3, (4, (0,), (1,)), (0,))), True)
        self.assertIs(is_reading(inner, 'k', ('f', FAA, A), (3, (4, (0,), (0,)), (0,))), False)

    def test_another_kind_or_sign(self):
        book = example_book()
        for kind in ['twin', 'full', 'none']:
            self.assertIs(is_reading(book, kind, TREE, TOLD), False)
        for tree in [A, B, FAA, FAB, FBA, ('f', FBA, A), ('f', FAB, B), ('f', A, FAB), ('f', FAB, FAB)]:
            self.assertIs(is_reading(book, 'any', tree, TOLD), False)
        self.assertIs(is_reading(book, 'any', B, (0,)), False)
        self.assertIs(is_reading(book, 'any', A, (2,)), False)

    def test_other_objects(self):
        book = example_book()
        for thing in odd_objects() + [0, 2, A, B, FAA, 'any', book.rules[0], book.rules, [TOLD], (TOLD,)]:
            with self.subTest(thing=str(thing)[:60]):
                for kind, tree in [('any', B), ('any', FAA), ('any', TREE), ('full', FAA), ('none', A)]:
                    self.assertIs(is_reading(book, kind, tree, thing), False)


if __name__ == '__main__':
    unittest.main()
