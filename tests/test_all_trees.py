"""All trees of kinds whose asks say that brothers are the same, beside a search through all rows."""

import random
import unittest
from itertools import combinations, product

from likeboughs.books import Book
from likeboughs.errors import TooMany
from likeboughs.finite import all_trees, is_finite, ring
from tests.plain import asks_are_met, plain_order
from tests.samples import A, SIGNS

PAIRS = [(0, 1), (0, 2), (1, 2)]
LEAVES = 'abcdexyz'
LETTERS = 'abcdefghij'


def letters(number):
    return ''.join(LETTERS[int(figure)] for figure in str(number))


def all_asks(pairs):
    """All ascending tuples of asks about pairs of places, with none, one or both asks about each pair."""
    choices = product(*[[(), ((*pair, True),), ((*pair, False),), ((*pair, False), (*pair, True))] for pair in pairs])
    return [tuple(sorted(ask for asks in row for ask in asks)) for row in choices]


def plain_all(book, order):
    """The lists of all trees of kinds, each one told behind those beneath it, by looking through all rows of brothers."""
    held = {}
    for kind in order:
        found = set()
        for name, sign, kinds, asks in book.rules:
            if name == kind:
                found.update((sign, *row) for row in product(*[held.get(lower, []) for lower in kinds]) if asks_are_met(asks, row))
        held[kind] = plain_order(found)
    return held


class AllTreesTest(unittest.TestCase):
    def check(self, book, held, kinds=None):
        """Check the trees of some kinds of a book beside lists of them."""
        for kind in held if kinds is None else kinds:
            with self.subTest(kind=kind, rules=book.rules[-4:]):
                self.assertIs(is_finite(book, kind), True)
                self.assertIs(ring(book, kind), None)
                if len(held[kind]) > 300:
                    with self.assertRaises(TooMany):
                        all_trees(book, kind)
                else:
                    self.assertEqual(all_trees(book, kind), held[kind])

    def test_kinds_one_above_the_other(self):
        book = Book(SIGNS, [
            ('k', 'a', (), ()), ('k', 'b', (), ()), ('l', 'f', ('k', 'k'), ()), ('m', 'f', ('l', 'l'), ((0, 1, False),)),
            ('n', 'f', ('m', 'm'), ()), ('o', 'f', ('m', 'l'), ()), ('p', 'f', ('n', 'n'), ((0, 1, True),)),
        ])
        self.assertEqual([len(all_trees(book, kind)) for kind in 'klmnop'], [2, 4, 12, 144, 48, 144])
        self.assertEqual(all_trees(book, 'p'), [('f', tree, tree) for tree in all_trees(book, 'n')])
        more = Book(SIGNS, book.rules + [('q', 'f', ('n', 'l'), ())])
        self.assertIs(is_finite(more, 'q'), True)
        self.assertEqual(len(all_trees(more, 'n')), 144)
        with self.assertRaises(TooMany):
            all_trees(more, 'q')
        self.check(more, plain_all(more, 'klmnopq'))
        # The same, told backwards, and with rules that stand twice.
        self.check(Book(SIGNS, more.rules[::-1] + more.rules[::2]), plain_all(more, 'klmnopq'))

    def test_two_brothers(self):
        signs = {'a': 0, 'b': 0, 'c': 0, 'f': 2, 'h': 2}
        rules = [('k', 'a', (), ()), ('k', 'b', (), ()), ('j', 'b', (), ()), ('j', 'c', (), ()), ('l', 'f', ('k', 'k'), ()),
                 ('l', 'a', (), ()), ('i', 'f', ('k', 'j'), ((0, 1, False),)), ('i', 'a', (), ())]
        for asks in all_asks(PAIRS[:1]):
            for kinds in product('kjlin', repeat=2):
                book = Book(signs, rules + [('m', 'f', kinds, asks), ('o', 'f', kinds, asks), ('o', 'h', kinds, ()), ('o', 'a', (), ())])
                self.check(book, plain_all(book, 'kjlinmo'), 'mo')

    def test_three_brothers(self):
        signs = {'a': 0, 'b': 0, 'c': 0, 'f': 2, 'g': 3}
        rules = [('k', 'a', (), ()), ('k', 'b', (), ()), ('j', 'b', (), ()), ('j', 'c', (), ()), ('j', 'f', ('k', 'k'), ()),
                 ('i', 'f', ('k', 'j'), ((0, 1, True),)), ('i', 'a', (), ()), ('i', 'b', (), ())]
        rows = [('k', 'k', 'k'), ('k', 'j', 'k'), ('j', 'i', 'k'), ('j', 'j', 'i'), ('i', 'i', 'none')]
        held = plain_all(Book(signs, rules), 'kji')
        self.assertEqual([len(held[kind]) for kind in 'kji'], [2, 6, 3])
        for asks in all_asks(PAIRS):
            for kinds in rows:
                book = Book(signs, rules + [('m', 'g', kinds, asks), ('o', 'g', kinds, asks), ('o', 'g', rows[0], asks[:1])])
                self.check(book, plain_all(book, 'kjimo'), 'mo')

    def test_which_two_of_three_brothers_are_the_same(self):
        signs = {**{leaf: 0 for leaf in LEAVES[:5]}, 'f': 2, 'g': 3}
        rules = [('k', leaf, (), ()) for leaf in LEAVES[:5]] + [('l', 'f', ('k', 'k'), ())]
        for pair in PAIRS:
            for more in [()] + [((*other, False),) for other in PAIRS if other != pair]:
                asks = tuple(sorted(((*pair, True), *more)))
                book = Book(signs, rules + [('m', 'g', ('l', 'l', 'k'), asks), ('n', 'g', ('l', 'l', 'l'), asks)])
                held = plain_all(book, 'klmn')
                self.check(book, held, 'mn')
                self.assertEqual(len(held['n']), 600 if more else 625)
        for asks in [((0, 1, True), (0, 2, True)), ((0, 1, True), (1, 2, True)), ((0, 2, True), (1, 2, True)), tuple(
                     (*pair, True) for pair in PAIRS)]:
            book = Book(signs, rules + [('m', 'g', ('l', 'l', 'l'), asks), ('n', 'g', ('l', 'k', 'l'), asks)])
            self.check(book, plain_all(book, 'klmn'), 'mn')
            self.assertEqual(all_trees(book, 'm'), [('g', tree, tree, tree) for tree in all_trees(book, 'l')])

    def test_too_many_beneath(self):
        # 6 leaves, 36 and 1296 trees of kinds of which those above need only some.
        signs = {**{leaf: 0 for leaf in LEAVES[:6]}, 'f': 2, 'g': 3}
        rules = [('k', leaf, (), ()) for leaf in LEAVES[:6]]
        rules += [('l', 'f', ('k', 'k'), ()), ('m', 'f', ('l', 'l'), ()), ('one', 'a', (), ()), ('few', 'f', ('l', 'l'), ((0, 1, True),))]
        tops = [
            ('f', ('m', 'few'), ((0, 1, True),)), ('f', ('few', 'm'), ((0, 1, True),)), ('f', ('m', 'few'), ((0, 1, False),)),
            ('f', ('m', 'm'), ((0, 1, True),)), ('f', ('m', 'one'), ()), ('f', ('m', 'one'), ((0, 1, True),)),
            ('f', ('m', 'none'), ()), ('f', ('none', 'm'), ((0, 1, False),)), ('g', ('m', 'few', 'one'), ((0, 1, True),)),
            ('g', ('m', 'few', 'one'), ((0, 1, True), (1, 2, True))), ('g', ('one', 'm', 'few'), ((0, 1, False), (1, 2, True))),
            ('g', ('one', 'm', 'one'), ((0, 1, True),)), ('g', ('m', 'm', 'one'), ((0, 1, False), (0, 1, True))),
            ('g', ('one', 'm', 'few'), ((0, 1, True), (1, 2, True))),
        ]
        for sign, kinds, asks in tops:
            book = Book(signs, rules + [('top', sign, kinds, asks), ('over', 'f', ('top', 'one'), ())])
            order = ['k', 'l', 'm', 'one', 'few', 'top']
            if kinds == ('m', 'm'):
                held = {'top': [None] * 1296}
            else:
                held = plain_all(book, order)
            self.check(book, held, ['top'])
            self.check(book, {'over': [('f', tree, A) for tree in held['top']]}, ['over'])

    def test_three_hundred_and_one_more_with_asks(self):
        # 3 * 7 * 15 = 315 without asks, less those of which two are the same.
        signs = {**{leaf: 0 for leaf in LEAVES[:6]}, 's': 1, 'g': 3}
        leaves = [(kind, leaf, (), ()) for kind, many in [('k', 2), ('l', 3), ('m', 6)] for leaf in LEAVES[:many]]
        rules = leaves + [('m', 's', ('l',), ()), ('n', 's', ('m',), ()), ('n', 's', ('k',), ()), ('l', 's', ('k',), ())]
        for many in range(6):
            for asks in [((0, 1, False),), ((0, 2, False), (1, 2, False)), tuple((*pair, False) for pair in PAIRS)]:
                more = [('n', leaf, (), ()) for leaf in LEAVES[:many]]
                for kinds in [('l', 'm', 'n'), ('m', 'm', 'l'), ('m', 'n', 'm')]:
                    book = Book(signs, rules + more + [('top', 'g', kinds, asks)])
                    self.check(book, plain_all(book, ['k', 'l', 'm', 'n', 'top']), ['top'])
        found = set()
        signs = {**{leaf: 0 for leaf in LEAVES[:5]}, 's': 1, 'f': 2, 'g': 3}
        for many in range(1, 6):
            leaves = [('k', leaf, (), ()) for leaf in LEAVES[:many]]
            book = Book(signs, leaves + [('l', 'f', ('k', 'k'), ()), ('m', 'g', ('k', 'k', 'k'), ((0, 1, False),)),
                                                    ('m', 'f', ('l', 'l'), ((0, 1, False),)), ('m', 's', ('l',), ())])
            held = plain_all(book, 'klm')
            found.add(len(held['m']) > 300)
            self.check(book, held)
        self.assertEqual(found, {True, False})

    def test_just_at_the_bound(self):
        # 17 * 18 = 306 rows of two, less those that are the same.
        signs = {'a': 0, 's': 1, 't': 1, 'f': 2}
        chain = [('x' + letters(at), 's', ('x' + letters(at - 1),), ()) for at in range(1, 39)] + [('x' + letters(0), 'a', (), ())]
        for one, other in [(17, 18), (18, 18), (15, 21), (16, 20), (14, 23), (10, 30), (30, 10), (31, 10), (10, 31), (8, 39), (39, 8)]:
            rules = list(chain)
            rules += [('k', 's', ('x' + letters(at),), ()) for at in range(one)]
            rules += [('l', 's', ('x' + letters(at),), ()) for at in range(other)]
            for asks, wanted in [((), one * other), (((0, 1, False),), one * other - min(one, other)), (((0, 1, True),), min(one, other))]:
                book = Book(signs, rules + [('m', 'f', ('k', 'l'), asks)])
                self.assertIs(is_finite(book, 'm'), True)
                if wanted > 300:
                    with self.assertRaises(TooMany):
                        all_trees(book, 'm')
                else:
                    self.assertEqual(len(all_trees(book, 'm')), wanted)

    def test_books_by_chance(self):
        chance = random.Random(131)
        for _ in range(300):
            signs = chance.choice([SIGNS, {'a': 0, 'b': 0, 'c': 0, 'g': 3}, {'a': 0, 'b': 0, 's': 1, 'f': 2, 'g': 3}])
            rules = [('k', leaf, (), ()) for leaf in signs if signs[leaf] == 0]
            names = ['k']
            for name in chance.sample('lmnop', 3):
                for _ in range(chance.choice([1, 1, 2])):
                    sign = chance.choice([sign for sign in signs if signs[sign] > 0])
                    asks = tuple((*pair, chance.random() < 0.7) for pair in combinations(range(signs[sign]), 2) if chance.random() < 0.6)
                    rules.append((name, sign, tuple(chance.choice(names[-3:]) for _ in range(signs[sign])), asks))
                if chance.random() < 0.3:
                    rules.append((name, 'a', (), ()))
                names.append(name)
                book = Book(signs, rules)
                held = plain_all(book, names)
                self.check(book, held, [name])
                # A search through all rows is too long beyond that.
                if len(held[name]) > 60:
                    break


if __name__ == '__main__':
    unittest.main()
