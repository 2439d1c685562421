"""Rings of kinds with no end of trees."""

import unittest

from likeboughs.books import Book
from likeboughs.finite import is_finite, is_ring, ring
from likeboughs.readings import is_of, lot_of
from likeboughs.surroundings import filled
from tests.plain import plain_depth, plain_filled, plain_lot, plain_places, plain_size, plain_trees, random_books
from tests.samples import A, ANY_RULES, B, SIGNS, asking_book, example_book, grown, nested, odd_objects, short_book, wide_tree

FAA, FAB = ('f', A, A), ('f', A, B)
FOUR = ('f', FAA, FAA)
# A doubling chain: the kind xg has one tree, of 127 places.
CHAIN = [('xa', 'a', (), ())] + [
    ('x' + upper, 'd', ('x' + lower, 'x' + lower), ((0, 1, True),)) for lower, upper in zip('abcdef', 'bcdefg')
]


def plain_is_ring(book, kind, thing):
    tree, frame, outer = thing
    return (
        frame is not None and plain_size(tree) > max(plain_places(frame), plain_places(outer))
        and plain_lot(book, plain_filled(frame, tree)) == plain_lot(book, tree)
        and kind in plain_lot(book, plain_filled(outer, tree))
    )


class RingTest(unittest.TestCase):
    def check(self, book, kind):
        """Check a ring of a kind with no end of trees, and give it back."""
        told = ring(book, kind)
        self.assertIs(is_finite(book, kind), False)
        self.assertEqual([type(told), len(told)], [tuple, 3])
        self.assertIs(is_ring(book, kind, told), True)
        self.assertTrue(plain_is_ring(book, kind, told))
        tree, frame, outer = told
        self.assertLessEqual(plain_depth(tree), 40)
        self.assertLessEqual(max(plain_size(tree), plain_places(frame), plain_places(outer)), 5000)
        lot = lot_of(book, tree)
        for _ in range(3):
            # Some frames make trees of thousands of places when they are filled again.
            if plain_size(tree) < 300:
                tree = filled(book.signs, frame, tree)
                self.assertEqual(lot_of(book, tree), lot)
                self.assertIs(is_of(book, kind, filled(book.signs, outer, tree)), True)
        return told

    def test_kinds_of_the_samples(self):
        for kind in ['any', 'twin', 'full']:
            self.check(example_book(), kind)
        for kind in asking_book().kinds:
            if kind in ['never', 'lost', 'deep', 'nothing']:
                self.assertIs(ring(asking_book(), kind), None)
            else:
                self.check(asking_book(), kind)
        for kind in ['leaf', 'pair', 'none']:
            self.assertIs(ring(short_book(), kind), None)
        for book in [Book(SIGNS, []), Book({'f': 2}, [('k', 'f', ('k', 'k'), ())])]:
            self.assertIs(ring(book, 'k'), None)

    def test_through_one_lot_and_through_several(self):
        names = ['ka', 'kb', 'kc', 'kd', 'ke', 'kf', 'kg']
        for many in range(1, 8):
            for sign, asks in [('s', ()), ('f', ((0, 1, True),)), ('f', ()), ('f', ((0, 1, False),))]:
                signs = {'a': 0, 'b': 0, 'c': 0, 's': 1, 'f': 2}
                rules = [('ka', leaf, (), ()) for leaf in 'abc']
                rules += [(names[(at + 1) % many], sign, (names[at],) * signs[sign], asks) for at in range(many)]
                for kind in names[:many]:
                    self.check(Book(signs, rules), kind)

    def test_three_brothers(self):
        signs = {'a': 0, 'b': 0, 'c': 0, 's': 1, 'g': 3}
        leaves = [('k', leaf, (), ()) for leaf in 'abc']
        apart = ((0, 1, False), (0, 2, False), (1, 2, False))
        for asks in [(), apart, apart[:1], ((0, 1, True),), ((0, 1, True), (0, 2, True)), ((0, 1, False), (1, 2, True))]:
            self.check(Book(signs, leaves + [('k', 'g', ('k', 'k', 'k'), asks)]), 'k')
            book = Book(signs, leaves + [('l', 'g', ('k', 'k', 'k'), asks), ('k', 's', ('l',), ()), ('m', 'g', ('l', 'k', 'l'), asks)])
            for kind in ['k', 'l']:
                self.check(book, kind)
        # The kind beneath has three trees: no end of them comes from the last brother alone.
        book = Book(signs, leaves + [('l', 'g', ('k', 'k', 'l'), ((0, 1, False),)), ('l', 'a', (), ())])
        self.check(book, 'l')

    def test_rings_that_do_not_lead_through_the_kind(self):
        rules = ANY_RULES + [('over', 'f', ('twin', 'leaf'), ()), ('leaf', 'a', (), ()), ('twin', 'f', ('any', 'any'), ((0, 1, True),)),
                             ('up', 'f', ('over', 'over'), ((0, 1, False),))]
        for kind in ['over', 'up', 'twin']:
            self.check(Book(SIGNS, rules), kind)

    def test_great_frames(self):
        signs = {'a': 0, 'b': 0, 's': 1, 'd': 2, 'f': 2, 'g': 3}
        leaf = [('k', 'b', (), ())]
        for rules in [
            [('k', 'f', ('k', 'xg'), ())], [('k', 'g', ('k', 'k', 'xf'), ((0, 1, True),))], [('k', 'g', ('k', 'xg', 'xf'), ())],
            [('k', 's', ('k',), ()), ('k', 'f', ('k', 'xg'), ())],
        ]:
            self.check(Book(signs, leaf + rules + CHAIN), 'k')
        # The frame of one sign s is soon outgrown, but not the outer one: trees of many levels of s would be too deep.
        book = Book(signs, leaf + [('k', 's', ('k',), ()), ('k', 'f', ('k', 'k'), ()), ('l', 'f', ('k', 'xg'), ())] + CHAIN)
        self.assertGreater(plain_places(self.check(book, 'l')[2]), 127)
        book = Book(signs, leaf + [('k', 's', ('k',), ()), ('k', 'f', ('k', 'k'), ((0, 1, False),)), ('l', 'f', ('k', 'xg'), ())] + CHAIN)
        self.check(book, 'l')

    def test_books_with_an_end(self):
        for book, _ in random_books(81, 40):
            for kind in book.kinds:
                if is_finite(book, kind):
                    self.assertIs(ring(book, kind), None)

    def test_random_books(self):
        for book, _ in random_books(82, 120):
            with self.subTest(rules=book.rules):
                for kind in book.kinds:
                    if not is_finite(book, kind):
                        self.check(book, kind)


class IsRingTest(unittest.TestCase):
    def check(self, thing, wanted, kind='full', book=None):
        self.assertIs(is_ring(book or example_book(), kind, thing), wanted)

    def test_rings(self):
        for thing in [(FOUR, ('f', None, None), None), (FAA, ('f', None, None), None), (FOUR, ('f', None, None), ('f', None, None)),
                      (FOUR, ('f', ('f', None, None), ('f', None, None)), None),
                      (FOUR, ('f', ('f', None, None), ('f', None, None)), ('f', ('f', None, None), ('f', None, None)))]:
            self.check(thing, True)
        self.check((FAB, ('f', None, A), None), True, 'any')
        self.check((FAA, ('f', None, None), None), True, 'any')

    def test_other_trees_and_frames(self):
        for thing in [
            (FOUR, ('f', None, A), None), (FOUR, ('f', A, None), None), (FOUR, ('f', None, None), ('f', None, A)),
            (('f', FAA, A), ('f', None, None), None), (('f', B, B), ('f', None, None), None), (FAB, ('f', None, None), None),
        ]:
            self.check(thing, False)
        # Here the frame does not keep the lot, though the kind is kept.
        self.check((FAA, ('f', None, A), None), False, 'any')
        self.check((FAA, ('f', A, None), ('f', None, None)), False, 'any')

    def test_trees_that_are_no_greater_than_a_frame(self):
        # Filled, the frame would keep the lot.
        self.check((A, ('f', None, B), None), False, 'any')
        big = ('f', None, ('f', A, B))
        self.check((FAB, big, None), False, 'any')
        self.check((('f', FAB, A), big, None), True, 'any')
        self.check((FAB, ('f', None, A), big), False, 'any')
        self.check((('f', FAB, A), ('f', None, A), big), True, 'any')
        self.check((FAA, ('f', ('f', None, None), ('f', None, None)), None), False)
        # Five places of signs, however often None stands in it.
        wide = ('f', ('f', None, None), ('f', ('f', None, None), ('f', None, None)))
        self.check((('f', A, FAB), wide, None), False, 'any')
        self.check((('f', FAA, FAB), wide, None), True, 'any')

    def test_none_in_the_place_of_frames(self):
        for outer in [None, ('f', None, None)]:
            self.check((FOUR, None, outer), False)
        self.check((None, ('f', None, None), None), False)
        self.check((FOUR, ('f', None, None), None), False, 'none')

    def test_trees_in_the_place_of_frames_and_frames_in_that_of_the_tree(self):
        for thing in [(FOUR, FAA, None), (FOUR, ('f', None, None), FAA), (FOUR, A, A), (FOUR, FOUR, FOUR),
                      (('f', None, FAA), ('f', None, None), None), (('f', FAA, None), None, None)]:
            self.check(thing, False)

    def test_tuples_of_another_length_and_lists(self):
        frame = ('f', None, None)
        for thing in [(), (FOUR,), (FOUR, frame), (FOUR, frame, None, None), [FOUR, frame, None], ([*FOUR], frame, None),
                      (FOUR, [*frame], None), (FOUR, frame, []), (FOUR, ('f', [None], None), None), (FOUR, ('f', None), None),
                      (FOUR, ('f', None, None, None), None), (FOUR, ('s', None), None), (FOUR, (None, None, None), None)]:
            self.check(thing, False)

    def test_objects_of_all_kinds(self):
        for thing in odd_objects():
            with self.subTest(thing=str(thing)[:60]):
                self.check(thing, False)
                self.check((thing, ('f', None, None), None), False)
                if thing is not None:
                    self.check((FOUR, thing, None), False)
                    self.check((FOUR, ('f', None, None), thing), thing == ('f', None, None))
                self.check((FOUR, ('f', None, thing), None), thing is None)
        for make in [lambda thing: (thing,), lambda thing: ('f', thing, None), lambda thing: ('f', A, thing)]:
            self.check((FOUR, nested(make, 55), None), False)

    def test_great_trees_and_frames(self):
        book = example_book()
        tree = wide_tree(4999)
        frame = grown(None, lambda frame: ('f', frame, A), 39)
        self.check((tree, frame, None), True, 'any')
        self.check((tree, ('f', None, None), None), False, 'any')
        # Filled, this frame has some millions of places.
        wide = grown(None, lambda frame: ('f', frame, frame), 11)
        self.assertEqual(plain_places(wide), 2047)
        self.check((grown(A, lambda tree: ('f', tree, tree), 11), wide, wide), True, 'full', book)
        self.check((wide_tree(2049), wide, None), False, 'any', book)
        self.check((wide_tree(2051), ('f', wide, A), None), True, 'any', book)
        self.check((wide_tree(2049), ('f', wide, A), None), False, 'any', book)

    def test_beside_the_long_way(self):
        for book, _ in random_books(83, 25):
            trees = [tree for row in plain_trees(book.signs, 4).values() for tree in row][:12]
            frames = [None] + [(sign, *row) for sign, many in book.signs.items() if many > 0
                               for row in [(None,) * many, (None, *trees[:many - 1]), (*trees[1:many], None)] if len(row) == many]
            for kind in book.kinds:
                for tree in trees:
                    for frame in frames:
                        for outer in frames[:3]:
                            thing = (tree, frame, outer)
                            self.assertIs(is_ring(book, kind, thing), plain_is_ring(book, kind, thing))


if __name__ == '__main__':
    unittest.main()
