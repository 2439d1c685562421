"""All trees of a size."""

import unittest

from likeboughs.errors import InvalidNumber, InvalidSigns, TooMany
from likeboughs.trees import is_less, is_tree, size, trees_of_size
from tests.plain import plain_trees
from tests.samples import A, ALL_SIGNS, B, SIGNS, odd_objects


class TreesOfSizeTest(unittest.TestCase):
    def test_all_of_them(self):
        for signs, most in [
            (SIGNS, 7), (ALL_SIGNS, 7), ({'a': 0}, 5), ({'a': 0, 's': 1}, 9), ({'a': 0, 'g': 3}, 13), ({'f': 2}, 7),
            ({'s': 1}, 5), ({'b': 0, 'a': 0, 't': 1, 's': 1}, 6), ({'z': 0, 'y': 1, 'b': 2, 'a': 3}, 7),
        ]:
            wanted = plain_trees(signs, most)
            for number in range(1, most + 1):
                with self.subTest(signs=signs, number=number):
                    self.assertEqual(trees_of_size(signs, number), wanted[number])

    def test_ascending_in_the_order_of_trees(self):
        told = trees_of_size(ALL_SIGNS, 7)
        self.assertTrue(all(is_less(ALL_SIGNS, told[at], told[at + 1]) for at in range(len(told) - 1)))
        self.assertTrue(all(is_tree(ALL_SIGNS, tree) and size(ALL_SIGNS, tree) == 7 for tree in told))

    def test_no_leaf(self):
        for signs in [{'s': 1}, {'f': 2}, {'g': 3}, {'s': 1, 'f': 2, 'g': 3}]:
            for number in [1, 2, 3, 4, 39, 40]:
                self.assertEqual(trees_of_size(signs, number), [])

    def test_sizes_up_to_forty(self):
        tree = A
        for number in range(1, 41):
            self.assertEqual(trees_of_size({'a': 0, 's': 1}, number), [tree])
            tree = ('s', tree)
        self.assertEqual(trees_of_size({'a': 0, 'b': 0}, 1), [A, B])
        self.assertEqual(trees_of_size({'a': 0, 'b': 0}, 40), [])
        # Not one tree has an even size, while those of odd sizes are beyond number.
        self.assertEqual(trees_of_size(SIGNS, 40), [])
        self.assertEqual(trees_of_size({**{letter: 0 for letter in 'abcdefg'}, 'g': 3}, 39), [])
        self.assertEqual(len(trees_of_size({'a': 0, 'b': 0, 's': 1}, 40)), 2)

    def test_a_thousand_and_more(self):
        signs = {'a': 0, 'b': 0, 'c': 0, 'd': 0, 'e': 0, 'f': 2, 'g': 2}
        told = trees_of_size(signs, 5)
        self.assertEqual([len(told), len(set(told))], [1000, 1000])
        self.assertEqual(told, plain_trees(signs, 5)[5])
        signs['h'] = 3
        self.assertEqual(len(trees_of_size(signs, 5)), 1000)
        # There are 1003 of these: no signs have trees of one size that are just 1001.
        signs = {'a': 0, 'r': 1, 's': 1, 't': 1, 'f': 2, 'g': 2, 'h': 3}
        self.assertEqual(len(plain_trees(signs, 6)[6]), 1003)
        with self.assertRaises(TooMany):
            trees_of_size(signs, 6)

    def test_too_many(self):
        for signs, number in [
            (SIGNS, 11), (SIGNS, 39), ({'a': 0, 's': 1, 't': 1}, 11), ({'a': 0, 's': 1, 't': 1}, 40), (ALL_SIGNS, 40),
            ({'a': 0, 'f': 2}, 17), ({'a': 0, 'g': 3}, 19), ({'a': 0, 'g': 3}, 40),
        ]:
            with self.subTest(signs=signs, number=number):
                with self.assertRaises(TooMany):
                    trees_of_size(signs, number)
        self.assertEqual(len(trees_of_size(SIGNS, 9)), 448)
        self.assertEqual(len(trees_of_size({'a': 0, 's': 1, 't': 1}, 10)), 512)

    def test_invalid_number(self):
        for number in [0, -1, 41, 42, 10 ** 39, True, False, None, '3', '', (3,), [3], {3: 3}, SIGNS, A] + odd_objects():
            with self.subTest(number=str(number)[:60]):
                with self.assertRaises(InvalidNumber):
                    trees_of_size(SIGNS, number)

    def test_invalid_signs_comes_first(self):
        for signs in odd_objects():
            for number in [1, 0, 41, None, signs]:
                with self.assertRaises(InvalidSigns):
                    trees_of_size(signs, number)

    def test_lists_are_new_and_arguments_stay(self):
        signs = dict(SIGNS)
        told = trees_of_size(signs, 3)
        wanted = list(told)
        told.clear()
        self.assertEqual(trees_of_size(signs, 3), wanted)
        self.assertEqual(list(signs.items()), list(SIGNS.items()))


if __name__ == '__main__':
    unittest.main()
