"""Rules of signs."""

import copy
import unittest

from likeboughs import books
from likeboughs.books import is_rule
from likeboughs.errors import InvalidSigns
from tests.samples import A, ALL_SIGNS, ODD_NAMES, SIGNS, odd_objects


class IsRuleTest(unittest.TestCase):
    def test_rules(self):
        for rule in [
            ('k', 'a', (), ()), ('abcdefgh', 's', ('z',), ()), ('f', 'f', ('f', 'k'), ()),
            ('k', 'f', ('k', 'k'), ((0, 1, True),)), ('k', 'f', ('k', 'k'), ((0, 1, False),)),
            ('k', 'f', ('k', 'k'), ((0, 1, False), (0, 1, True))),
            ('k', 'g', ('k', 'l', 'm'), ((0, 1, True), (0, 2, False), (1, 2, True))),
            ('k', 'g', ('k', 'l', 'm'), ((0, 2, True),)), ('k', 'g', ('k', 'l', 'm'), ((1, 2, False), (1, 2, True))),
            ('k', 'g', ('k', 'l', 'm'), tuple(
                (first, second, same) for first, second in [(0, 1), (0, 2), (1, 2)] for same in [False, True])),
        ]:
            with self.subTest(rule=rule):
                self.assertIs(is_rule(ALL_SIGNS, rule), True)

    def test_asks_that_do_not_ascend(self):
        for asks in [
            ((0, 1, True), (0, 1, False)), ((0, 2, True), (0, 1, True)), ((1, 2, False), (0, 2, False)),
            ((0, 1, True), (0, 1, True)), ((0, 1, False), (1, 2, True), (1, 2, True)),
            ((0, 1, True), (1, 2, True), (0, 2, True)),
        ]:
            with self.subTest(asks=asks):
                self.assertIs(is_rule(ALL_SIGNS, ('k', 'g', ('k', 'k', 'k'), asks)), False)

    def test_asks_with_places_that_are_none(self):
        for ask in [
            (0, 0, True), (1, 0, True), (1, 1, False), (0, 2, True), (1, 2, True), (-1, 0, True), (-1, 1, True),
            (-2, -1, True), (0, -1, True), (0, 3, True), (False, 1, True), (0, True, True), (False, True, True),
            (None, 1, True), (0, None, True), ('0', '1', True), ((), 1, True), ([], [], True), (0, 10 ** 39, True),
        ]:
            with self.subTest(ask=ask):
                self.assertIs(is_rule(ALL_SIGNS, ('k', 'f', ('k', 'k'), (ask,))), False)
        for sign, kinds in [('a', ()), ('s', ('k',))]:
            for ask in [(0, 0, True), (0, 1, True), (-1, 0, True)]:
                self.assertIs(is_rule(ALL_SIGNS, ('k', sign, kinds, (ask,))), False)
        self.assertIs(is_rule(ALL_SIGNS, ('k', 'g', ('k', 'k', 'k'), ((0, 3, True),))), False)
        self.assertIs(is_rule(ALL_SIGNS, ('k', 'g', ('k', 'k', 'k'), ((0, 1, True), (2, 3, True)))), False)

    def test_asks_of_another_shape(self):
        for asks in [
            ((0, 1, 1),), ((0, 1, 0),), ((0, 1, None),), ((0, 1, 'True'),), ((0, 1, []),), ((0, 1),), ((0, 1, True, True),),
            ((),), ([0, 1, True],), [(0, 1, True)], [], None, True, False, 0, '', {}, {(0, 1, True): True}, (0, 1, True),
            (None,), ('abc',), ((0, 1, True), None), ((0, 1, True), ()), ((0, 1, True), [0, 1, True]),
            ((0, 1, False), (0, 1, 1)), (((0, 1, True),),),
        ]:
            with self.subTest(asks=asks):
                self.assertIs(is_rule(ALL_SIGNS, ('k', 'f', ('k', 'k'), asks)), False)

    def test_names_that_are_none(self):
        for name in ODD_NAMES:
            with self.subTest(name=name):
                self.assertIs(is_rule(SIGNS, (name, 'a', (), ())), False)
                self.assertIs(is_rule(SIGNS, ('k', 'f', (name, 'k'), ())), False)
                self.assertIs(is_rule(SIGNS, ('k', 'f', ('k', name), ())), False)

    def test_signs_that_are_none(self):
        for sign in ODD_NAMES + ['c', 'k', 'ab']:
            with self.subTest(sign=sign):
                self.assertIs(is_rule(SIGNS, ('k', sign, (), ())), False)
                self.assertIs(is_rule(SIGNS, ('k', sign, ('k', 'k'), ())), False)

    def test_kinds_for_the_brothers(self):
        for sign, number in ALL_SIGNS.items():
            for many in range(6):
                with self.subTest(sign=sign, many=many):
                    self.assertIs(is_rule(ALL_SIGNS, ('k', sign, ('k',) * many, ())), many == number)
        for kinds in [['k', 'k'], 'kk', {'k': 0, 'l': 1}, None, 2, True, ('k',), (('k', 'k'),), ('k', ['k'])]:
            self.assertIs(is_rule(SIGNS, ('k', 'f', kinds, ())), False)
        for kinds in [[], '', {}, None, 0, False]:
            self.assertIs(is_rule(SIGNS, ('k', 'a', kinds, ())), False)

    def test_other_objects(self):
        for thing in [
            A, 'abcd', ['k', 'a', (), ()], ('k', 'a'), ('k', 'a', ()), ('k', 'a', (), (), ()), (('k', 'a', (), ()),),
        ]:
            self.assertIs(is_rule(SIGNS, thing), False)
        for thing in odd_objects():
            with self.subTest(thing=str(thing)[:60]):
                self.assertIs(is_rule(SIGNS, thing), False)
                for rule in [
                    (thing, 'a', (), ()), ('k', thing, (), ()), ('k', 'f', ('k', thing), ()), ('k', 'f', thing, ()),
                    ('k', 'f', ('k', 'k'), (thing,)), ('k', 'f', ('k', 'k'), ((0, 1, True), thing)),
                    ('k', 'f', ('k', 'k'), ((thing, 1, True),)), ('k', 'f', ('k', 'k'), ((0, thing, True),)),
                ]:
                    self.assertIs(is_rule(SIGNS, rule), False)
                is_same = thing is True or thing is False
                self.assertIs(is_rule(SIGNS, ('k', 'f', ('k', 'k'), ((0, 1, thing),))), is_same)
                self.assertIs(is_rule(SIGNS, ('k', 'f', ('k', 'k'), thing)), thing == ())

    def test_invalid_signs(self):
        for signs in odd_objects():
            for thing in [('k', 'a', (), ()), None, signs]:
                with self.assertRaises(InvalidSigns):
                    is_rule(signs, thing)

    def test_arguments(self):
        signs, rule = copy.deepcopy(SIGNS), ['k', 'f', ['k'], [[0, 1, True]]]
        self.assertIs(is_rule(thing=rule, signs=signs), False)
        self.assertIs(is_rule(thing=('k', 'a', (), ()), signs=signs), True)
        self.assertEqual(list(signs.items()), list(SIGNS.items()))
        self.assertEqual(rule, ['k', 'f', ['k'], [[0, 1, True]]])
        self.assertEqual(is_rule.__module__, books.__name__)


if __name__ == '__main__':
    unittest.main()
