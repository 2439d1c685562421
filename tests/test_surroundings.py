"""Frames, and surroundings that part two trees for a kind."""

import random
import unittest

from likeboughs.books import Book
from likeboughs.errors import InvalidFrame, InvalidTree
from likeboughs.surroundings import are_kin, filled, is_frame, is_parter, parter
from likeboughs.trees import is_tree
from tests.plain import (
    plain_depth, plain_filled, plain_lot, plain_parts, plain_places, plain_size, plain_surroundings, plain_trees, random_books,
)
from tests.samples import (
    A, ALL_SIGNS, ANY_RULES, B, SIGNS, asking_book, example_book, grown, nested, odd_objects, short_book, wide_tree,
)

FAA, FAB, FBA, FBB = ('f', A, A), ('f', A, B), ('f', B, A), ('f', B, B)
FRAMES = [
    None, ('f', None, A), ('f', B, None), ('f', None, None), ('f', ('f', None, A), FAB), ('f', A, ('f', ('f', None, None), None)),
    grown(None, lambda frame: ('f', A, frame), 39), grown(None, lambda frame: ('f', frame, frame), 8),
]
NO_FRAMES = [
    A, FAA, ('f', None), ('f', None, None, None), ('f', None, A, A), ('f', A), ('f', ('f', None), A), ('a', None), ('s', None),
    ('f', None, ('c',)), ('f', None, 'a'), ('f', None, [None]), ['f', None, None], ('f', None, ['a']), ('f', None, ()),
    (None,), (None, None, None), ('f', None, (None,)), ('g', None, None, None), 'f', [None], {}, {'f': None}, False, 0,
]


class FrameTest(unittest.TestCase):
    def test_frames(self):
        for frame in FRAMES:
            with self.subTest(frame=str(frame)[:60]):
                self.assertIs(is_frame(SIGNS, frame), True)
        for frame in [('s', None), ('g', None, A, None), ('g', A, ('s', None), FAA), ('s', ('s', ('s', None)))]:
            self.assertIs(is_frame(ALL_SIGNS, frame), True)
        self.assertEqual([is_frame({'a': 0}, None), is_frame({'f': 2}, ('f', None, None))], [True, True])

    def test_objects_that_are_none(self):
        for thing in NO_FRAMES + [grown(A, lambda frame: ('f', A, frame), 39), wide_tree(999)]:
            with self.subTest(thing=str(thing)[:60]):
                self.assertIs(is_frame(SIGNS, thing), False)
                self.assertIs(is_frame(SIGNS, ('f', None, thing)), is_tree(SIGNS, thing))
        for thing in odd_objects():
            with self.subTest(thing=str(thing)[:60]):
                self.assertIs(is_frame(SIGNS, thing), thing is None or thing == ('f', A, None))
        for make in [lambda thing: (thing,), lambda thing: ('f', thing, 0), lambda thing: ['f', thing, None]]:
            self.assertIs(is_frame(SIGNS, nested(make, 58)), False)
            self.assertIs(is_frame(SIGNS, ('f', None, nested(make, 58))), False)

    def test_a_dict_of_other_signs(self):
        self.assertIs(is_frame({'a': 0, 'f': 3}, ('f', None, A, A)), True)
        self.assertIs(is_frame({'a': 0, 'f': 3}, ('f', None, A)), False)


class FilledTest(unittest.TestCase):
    def test_filled(self):
        for frame in FRAMES:
            for tree in [A, B, FAB, ('f', FAB, FBB)]:
                self.assertEqual(filled(SIGNS, frame, tree), plain_filled(frame, tree))
        self.assertEqual(filled(ALL_SIGNS, ('g', None, A, ('s', None)), FAA), ('g', FAA, A, ('s', FAA)))
        self.assertEqual([filled(SIGNS, None, A), filled(SIGNS, ('f', None, B), B)], [A, FBB])

    def test_greater_than_the_frame_and_the_tree(self):
        frame = grown(None, lambda frame: ('f', frame, frame), 11)
        tree = grown(A, lambda tree: ('f', tree, tree), 7)
        self.assertEqual(filled(SIGNS, frame, tree), grown(A, lambda tree: ('f', tree, tree), 18))
        frame = grown(None, lambda frame: ('f', frame, B), 39)
        tree = grown(A, lambda tree: ('f', tree, B), 39)
        self.assertEqual(filled(SIGNS, frame, tree), grown(A, lambda tree: ('f', tree, B), 78))
        self.assertEqual(plain_size(filled(SIGNS, ('f', wide_tree(2499), None), wide_tree(4999))), 7499)

    def test_errors(self):
        for thing in NO_FRAMES + [thing for thing in odd_objects() if thing is not None and thing != ('f', A, None)]:
            with self.subTest(thing=str(thing)[:60]):
                for tree in [A, None, 'a']:
                    with self.assertRaises(InvalidFrame):
                        filled(SIGNS, thing, tree)
        for thing in [None, ('f', None, A), ('f', None, None)] + odd_objects():
            for frame in [None, ('f', None, A)]:
                with self.assertRaises(InvalidTree):
                    filled(SIGNS, frame, thing)


class ParterTest(unittest.TestCase):
    def check(self, book, kind, one, other, wanted):
        """Check whether two trees are parted, and by what, in both orders."""
        for first, second in [(one, other), (other, one)]:
            told = parter(book, kind, first, second)
            self.assertIs(are_kin(book, kind, first, second), not wanted)
            if wanted:
                self.assertEqual([type(told), len(told)], [tuple, 1])
                self.assertIs(is_parter(book, kind, first, second, told[0]), True)
                self.assertTrue(plain_parts(book, kind, first, second, told[0]))
                self.assertLessEqual(plain_depth(plain_filled(told[0], A)), 41)
                self.assertLessEqual(plain_places(told[0]), 5000)
            else:
                self.assertIs(told, None)
        return told

    def test_the_same_tree_twice(self):
        for book in [example_book(), short_book(), Book(SIGNS, [])]:
            for kind in ['any', 'twin', 'full', 'pair', 'none']:
                for tree in [A, FAB, ('f', FAA, FAA), wide_tree(4999)]:
                    self.check(book, kind, tree, tuple(list(tree)), False)

    def test_by_none_alone(self):
        told = self.check(example_book(), 'full', A, B, True)
        self.assertEqual(told, (None,))
        self.assertEqual(self.check(short_book(), 'leaf', A, ('f', FAA, FAA), True), (None,))
        self.assertEqual(parter(short_book(), 'pair', FAB, A), (None,))
        # No sign stands above trees of this kind.
        book = Book(SIGNS, [('k', 'a', (), ()), ('l', 'f', ('m', 'm'), ())])
        self.assertEqual(self.check(book, 'k', A, FAA, True), (None,))
        self.check(book, 'l', A, FAA, False)

    def test_trees_of_one_lot(self):
        book = example_book()
        for kind, wanted in [('any', False), ('twin', True), ('full', False), ('none', False)]:
            self.check(book, kind, FAB, FBA, wanted)
        self.check(book, 'full', FAA, ('f', FAA, FAA), True)
        self.check(short_book(), 'pair', A, B, True)
        self.check(short_book(), 'leaf', A, B, False)
        self.check(short_book(), 'pair', FAA, ('f', FAA, FAA), False)

    def test_by_two_levels_and_more(self):
        signs = {'a': 0, 'b': 0, 's': 1, 'f': 2, 'g': 3}
        names = ['ka', 'kb', 'kc', 'kd', 'ke', 'kf']
        rules = [('ka', 'a', (), ())] + [(names[at + 1], 's', (names[at],), ()) for at in range(5)]
        told = self.check(Book(signs, rules), 'kf', A, B, True)
        self.assertEqual(told, (grown(None, lambda frame: ('s', frame), 5),))
        self.check(Book(signs, rules), 'kf', ('s', A), B, True)
        rules = [('leaf', 'a', (), ()), ('leaf', 'b', (), ()), ('k', 'f', ('leaf', 'leaf'), ()), ('l', 'f', ('k', 'k'), ((0, 1, True),)),
                 ('m', 'g', ('l', 'l', 'l'), ((0, 1, False), (1, 2, True)))]
        for kind, levels in [('l', 2), ('m', 3)]:
            told = self.check(Book(signs, rules), kind, A, B, True)
            self.assertEqual(plain_depth(plain_filled(told[0], A)), levels + 1)
        self.check(Book(signs, rules), 'k', A, B, False)

    def test_by_asks_that_brothers_are_the_same_or_are_not(self):
        signs = {'a': 0, 'b': 0, 'c': 0, 'f': 2, 'g': 3}
        leaves = [('k', leaf, (), ()) for leaf in 'abc']
        for asks in [((0, 1, True),), ((0, 1, False),)]:
            self.check(Book(signs, leaves + [('l', 'f', ('k', 'k'), asks)]), 'l', A, B, True)
        # The brother beside has to be one of both trees; only a tree of its kind will do.
        self.check(Book(signs, leaves + [('m', 'c', (), ()), ('l', 'f', ('k', 'm'), ((0, 1, True),))]), 'l', A, B, False)
        self.check(Book(signs, leaves + [('m', 'c', (), ()), ('l', 'f', ('k', 'm'), ((0, 1, True),))]), 'l', A, ('c',), True)
        for asks, wanted in [
            (((0, 1, True), (0, 2, True)), True), (((0, 1, False), (0, 2, False), (1, 2, False)), True), (((1, 2, True),), True),
            (((0, 1, False), (0, 1, True)), False), ((), False),
        ]:
            self.check(Book(signs, leaves + [('l', 'g', ('k', 'k', 'k'), asks)]), 'l', A, B, wanted)
        # Of two trees there are not three that differ, whatever the third one is.
        apart = ((0, 1, False), (0, 2, False), (1, 2, False))
        self.check(Book(signs, leaves[:2] + [('l', 'g', ('k', 'k', 'k'), apart)]), 'l', A, B, False)
        # Both trees are taken from the kind, so that one is left, and no two others.
        self.check(Book(signs, leaves + [('l', 'g', ('k', 'k', 'k'), apart), ('m', 'f', ('l', 'l'), ((0, 1, True),))]), 'm', A, B, True)

    def test_trees_of_no_kind(self):
        book = Book(SIGNS, [('k', 'f', ('leaf', 'leaf'), ()), ('leaf', 'a', (), ())])
        self.check(book, 'k', B, FBB, False)
        self.check(book, 'k', B, FAA, True)
        self.check(book, 'k', B, A, True)
        self.check(book, 'none', A, B, False)
        self.check(Book(SIGNS, []), 'k', A, B, False)

    def test_kinds_that_the_kind_does_not_hang_on(self):
        book = Book(SIGNS, ANY_RULES + [('one', 'a', (), ()), ('up', 'f', ('one', 'any'), ()), ('over', 'f', ('any', 'any'), ())])
        self.check(book, 'over', A, B, False)
        self.check(book, 'up', A, B, True)
        self.check(book, 'up', FAA, FBA, True)
        self.check(book, 'up', FAA, FAB, False)
        self.check(book, 'up', FAA, ('f', A, FAB), False)

    def test_great_trees_and_two_thousand_rules(self):
        one, other = wide_tree(4999), wide_tree(4997)
        self.check(example_book(), 'any', one, other, False)
        told = self.check(example_book(), 'full', one, grown(A, lambda tree: ('f', tree, tree), 11), True)
        self.assertEqual(told, (None,))
        # Where trees part only beside themselves, the surrounding is as great as one of them.
        one, other = wide_tree(3999), wide_tree(3999, (B, A))
        told = parter(example_book(), 'twin', one, other)
        self.assertEqual(plain_places(told[0]), 4000)
        self.assertIs(is_parter(example_book(), 'twin', one, other, told[0]), True)
        one, other = grown(A, lambda tree: ('f', tree, B), 38), grown(B, lambda tree: ('f', tree, B), 38)
        self.check(example_book(), 'twin', one, other, True)
        book = Book(SIGNS, ANY_RULES + [('twin', 'f', ('any', 'any'), ((0, 1, True),))] * 1997)
        self.check(book, 'twin', A, B, True)
        self.check(book, 'any', A, B, False)

    def test_beside_a_search_through_small_surroundings(self):
        chance = random.Random(93)
        for book, _ in random_books(93, 45):
            trees = plain_trees(book.signs, 5)
            few = [tree for size in range(1, 4) for tree in trees[size]][:7]
            frames = plain_surroundings(book.signs, few, 2)
            frames = frames if len(frames) < 700 else frames[:200] + chance.sample(frames, 500)
            small = [tree for size in range(1, 6) for tree in trees[size]]
            known = {}
            for kind in book.kinds:
                for _ in range(4):
                    one, other = chance.choice(small), chance.choice(small)
                    with self.subTest(rules=book.rules, kind=kind, one=one, other=other):
                        kin = are_kin(book, kind, one, other)
                        self.check(book, kind, one, other, not kin)
                        if kin:
                            self.assertFalse(any(plain_parts(book, kind, one, other, frame, known) for frame in frames))

    def test_trees_of_one_lot_are_parted_alike(self):
        # Whether two different trees are parted hangs on their lots alone.
        chance = random.Random(94)
        for book, _ in random_books(94, 30):
            known = {}
            by_lot = {}
            for size, trees in plain_trees(book.signs, 5).items():
                for tree in trees:
                    by_lot.setdefault(plain_lot(book, tree, known), []).append(tree)
            for _ in range(6):
                lots = [chance.choice(sorted(by_lot)) for _ in range(2)]
                kind = chance.choice(book.kinds)
                pairs = [[chance.choice(by_lot[lot]) for lot in lots] for _ in range(6)]
                self.assertLessEqual(len({are_kin(book, kind, *pair) for pair in pairs if pair[0] != pair[1]}), 1)


class IsParterTest(unittest.TestCase):
    def test_surroundings(self):
        book = example_book()
        for thing, wanted in [
            (('f', None, A), True), (('f', None, B), True), (('f', A, None), True), (('f', B, None), True),
            (('f', None, FAA), False), (None, False), (('f', ('f', None, A), FAA), True), (('f', ('f', None, A), FAB), False),
            (('f', FBB, ('f', B, None)), True), (('f', A, ('f', None, A)), False),
        ]:
            self.assertIs(is_parter(book, 'twin', A, B, thing), wanted)
        for thing, wanted in [(None, True), (('f', None, A), True), (('f', None, B), False)]:
            self.assertIs(is_parter(book, 'full', A, B, thing), wanted)

    def test_none_twice_and_not_at_all(self):
        for thing in [('f', None, None), ('f', ('f', None, A), ('f', None, B)), A, B, FAA, FAB, ('f', ('f', None, None), A)]:
            for kind in ['any', 'twin', 'full', 'none']:
                self.assertIs(is_parter(example_book(), kind, A, B, thing), False)
        self.assertIs(is_parter(asking_book(), 'same', A, FAA, ('g', None, None, A)), False)

    def test_tuples_of_surroundings_and_lists(self):
        for thing in [(None,), (('f', None, A),), [('f', None, A)], ['f', None, A], ('f', [None], A), ('f', None, A, A), ('f', None)]:
            self.assertIs(is_parter(example_book(), 'twin', A, B, thing), False)
            self.assertIs(is_parter(example_book(), 'full', A, B, thing), False)

    def test_objects_of_all_kinds(self):
        for thing in odd_objects():
            with self.subTest(thing=str(thing)[:60]):
                wanted = plain_parts(example_book(), 'full', A, B, thing) if thing is None or thing == ('f', A, None) else False
                self.assertIs(is_parter(example_book(), 'full', A, B, thing), wanted)
                self.assertIs(is_parter(example_book(), 'full', A, B, ('f', A, thing)), thing is None)

    def test_the_same_tree_twice(self):
        for thing in [None, ('f', None, A), ('f', A, None), ('f', None, None)]:
            self.assertIs(is_parter(example_book(), 'twin', A, A, thing), False)

    def test_beside_the_long_way(self):
        chance = random.Random(95)
        for book, _ in random_books(95, 45):
            trees = [tree for row in plain_trees(book.signs, 4).values() for tree in row]
            frames = plain_surroundings(book.signs, trees[:5], 2)
            known = {}
            for kind in book.kinds:
                for _ in range(25):
                    one, other, frame = chance.choice(trees), chance.choice(trees), chance.choice(frames)
                    wanted = plain_parts(book, kind, one, other, frame, known)
                    self.assertIs(is_parter(book, kind, one, other, frame), wanted)


if __name__ == '__main__':
    unittest.main()
