"""Books of rules."""

import copy
import unittest

from likeboughs.books import Book
from likeboughs.errors import InvalidKind, InvalidMatch, InvalidNames, InvalidRules, InvalidSigns
from tests.samples import A, ALL_SIGNS, ANY_RULES, B, ODD_NAMES, SIGNS, example_book, odd_objects

LEAF = ('leaf', 'a', (), ())
TWIN = ('twin', 'f', ('any', 'any'), ((0, 1, True),))
ODD = ('odd', 'f', ('any', 'any'), ((0, 1, False),))


def many_rules(many, start=0):
    """So many different rules."""
    letters = 'abcdefghijklmnopqrstuvwxyz'
    return [('k' + letters[at // 676] + letters[at // 26 % 26] + letters[at % 26], 'a', (), ())
            for at in range(start, start + many)]


class MakingTest(unittest.TestCase):
    def test_properties(self):
        rules = [TWIN, LEAF, ODD, LEAF]
        book = Book(SIGNS, rules)
        self.assertEqual(book.signs, SIGNS)
        self.assertEqual(book.rules, rules)
        self.assertEqual(book.kinds, ['any', 'leaf', 'odd', 'twin'])
        self.assertEqual(len(book), 4)
        self.assertEqual([type(book.signs), type(book.rules), type(book.kinds)], [dict, list, list])

    def test_kinds_from_all_places(self):
        book = Book(ALL_SIGNS, [('z', 'g', ('c', 'b', 'zz'), ()), ('a', 's', ('y',), ())])
        self.assertEqual(book.kinds, ['a', 'b', 'c', 'y', 'z', 'zz'])

    def test_without_rules(self):
        book = Book({'f': 2}, [])
        self.assertEqual([book.signs, book.rules, book.kinds, len(book)], [{'f': 2}, [], [], 0])

    def test_two_thousand_rules(self):
        self.assertEqual(len(Book(SIGNS, many_rules(2000))), 2000)
        self.assertEqual(len(Book(SIGNS, many_rules(2000)).kinds), 2000)
        with self.assertRaises(InvalidRules):
            Book(SIGNS, many_rules(2001))
        self.assertEqual(len(Book(SIGNS, [LEAF] * 2000)), 2000)
        with self.assertRaises(InvalidRules):
            Book(SIGNS, [LEAF] * 2001)

    def test_a_rule_that_stands_several_times(self):
        book = Book(SIGNS, [LEAF, TWIN, LEAF, LEAF])
        self.assertEqual([len(book), book.rules, book.rules_of('leaf')], [4, [LEAF, TWIN, LEAF, LEAF], [0, 2, 3]])

    def test_invalid_signs(self):
        for signs in odd_objects():
            for rules in [[], [LEAF], None, signs, [None]]:
                with self.assertRaises(InvalidSigns):
                    Book(signs, rules)

    def test_invalid_rules(self):
        for rules in odd_objects() + [(), (LEAF,), {LEAF: True}, LEAF, [list(LEAF)], [[LEAF]], 'a', 0]:
            with self.subTest(rules=str(rules)[:60]):
                with self.assertRaises(InvalidRules):
                    Book(SIGNS, rules)
        for rule in odd_objects() + [('k', 'c', (), ()), ('k', 'f', ('k',), ()), ('k', 'f', ('k', 'k'), ((0, 1, 1),))]:
            for rules in [[rule], [LEAF, rule], [rule, LEAF], [LEAF] * 1999 + [rule]]:
                with self.assertRaises(InvalidRules):
                    Book(SIGNS, rules)

    def test_parameters_by_name(self):
        self.assertEqual(Book(rules=[LEAF], signs=SIGNS), Book(SIGNS, [LEAF]))
        self.assertEqual(Book(SIGNS, rules=[LEAF]), Book(SIGNS, [LEAF]))
        book = example_book()
        self.assertEqual(book.rules_of(kind='full'), [4, 5])
        self.assertEqual(book.renamed(names={'full': 'even'}).kinds, ['any', 'even', 'twin'])


class CopyTest(unittest.TestCase):
    def test_arguments_are_copied_and_stay(self):
        signs, rules = copy.deepcopy(SIGNS), [LEAF, TWIN]
        book = Book(signs, rules)
        self.assertEqual([list(signs.items()), rules], [list(SIGNS.items()), [LEAF, TWIN]])
        signs['c'] = 0
        del signs['b']
        rules.append(ODD)
        rules[0] = ODD
        self.assertEqual([book.signs, book.rules, len(book)], [SIGNS, [LEAF, TWIN], 2])

    def test_what_was_told_is_new(self):
        book = example_book()
        for _ in range(2):
            book.signs.clear()
            book.rules.clear()
            book.kinds.clear()
            book.rules_of('any').clear()
            self.assertEqual(book, example_book())
            self.assertEqual([book.signs, len(book.rules), book.kinds], [SIGNS, 6, ['any', 'full', 'twin']])
            self.assertEqual(book.rules_of('any'), [0, 1, 2])
        self.assertIsNot(book.signs, book.signs)
        self.assertIsNot(book.rules, book.rules)
        self.assertIsNot(book.kinds, book.kinds)
        self.assertIsNot(book.rules_of('any'), book.rules_of('any'))

    def test_books_made_of_books_are_new(self):
        book, names = example_book(), {'full': 'even'}
        other = book.renamed(names)
        self.assertEqual(names, {'full': 'even'})
        names['any'] = 'some'
        self.assertEqual([book, other.kinds], [example_book(), ['any', 'even', 'twin']])
        self.assertIsNot(book.renamed({}), book)
        self.assertIsNot(book | book, book)

    def test_failing_calls_change_nothing(self):
        book = example_book()
        for call in [lambda: book.renamed({'any': 'full'}), lambda: book.rules_of('A'), lambda: book | Book({'a': 0}, [])]:
            with self.assertRaises(ValueError):
                call()
            self.assertEqual(book, example_book())


class EqualTest(unittest.TestCase):
    def test_equal(self):
        book = example_book()
        self.assertIs(book == example_book(), True)
        self.assertIs(book != example_book(), False)
        self.assertIs(book == Book({'f': 2, 'b': 0, 'a': 0}, book.rules), True)
        self.assertIs(Book(SIGNS, []) == Book(SIGNS, []), True)

    def test_unlike(self):
        book = Book(SIGNS, [LEAF, TWIN])
        for other in [
            Book(SIGNS, [TWIN, LEAF]), Book(SIGNS, [LEAF]), Book(SIGNS, [LEAF, TWIN, LEAF]), Book(SIGNS, []),
            Book({'a': 0, 'f': 2}, [LEAF, TWIN]), Book({**SIGNS, 'c': 0}, [LEAF, TWIN]),
            Book({**SIGNS, 'b': 1}, [LEAF, TWIN]), Book(SIGNS, [LEAF, ODD]),
        ]:
            self.assertIs(book == other, False)
            self.assertIs(book != other, True)

    def test_other_objects(self):
        books = {0: Book(SIGNS, []), 1: Book(SIGNS, [LEAF])}
        for book in books.values():
            for thing in odd_objects() + [[], [LEAF], SIGNS, 0, 1, (SIGNS, []), (SIGNS, [LEAF]), 'a']:
                if not isinstance(thing, Book):
                    self.assertIs(book == thing, False)
                    self.assertIs(thing == book, False)
                    self.assertIs(book != thing, True)


class OrTest(unittest.TestCase):
    def test_rules_of_both(self):
        one, other = Book(SIGNS, [LEAF, TWIN]), Book(SIGNS, [ODD, TWIN, ANY_RULES[0]])
        self.assertEqual((one | other).rules, [LEAF, TWIN, ODD, ANY_RULES[0]])
        self.assertEqual((other | one).rules, [ODD, TWIN, ANY_RULES[0], LEAF])
        self.assertEqual((one | other).signs, SIGNS)
        self.assertIsInstance(one | other, Book)
        self.assertEqual([one.rules, other.rules], [[LEAF, TWIN], [ODD, TWIN, ANY_RULES[0]]])

    def test_rules_that_stand_several_times(self):
        one, other = Book(SIGNS, [LEAF, LEAF]), Book(SIGNS, [ODD, LEAF, ODD])
        self.assertEqual((one | other).rules, [LEAF, LEAF, ODD, ODD])
        self.assertEqual((other | one).rules, [ODD, LEAF, ODD])
        self.assertEqual((one | one).rules, [LEAF, LEAF])

    def test_rules_that_differ_by_an_ask(self):
        one, other = Book(SIGNS, [TWIN]), Book(SIGNS, [ODD, ('twin', 'f', ('any', 'any'), ()), TWIN])
        self.assertEqual((one | other).rules, [TWIN, ODD, ('twin', 'f', ('any', 'any'), ())])

    def test_empty_books(self):
        none, some = Book(SIGNS, []), Book(SIGNS, [LEAF])
        self.assertEqual([none | none, none | some, some | none], [none, some, some])

    def test_signs_in_another_order(self):
        other = Book({'f': 2, 'b': 0, 'a': 0}, [TWIN])
        self.assertEqual((Book(SIGNS, [LEAF]) | other).rules, [LEAF, TWIN])

    def test_invalid_match(self):
        for signs in [{'a': 0}, {**SIGNS, 'c': 0}, {**SIGNS, 'b': 1}, {'a': 0, 'c': 0, 'f': 2}]:
            for one, other in [(Book(SIGNS, []), Book(signs, [])), (Book(signs, []), Book(SIGNS, [LEAF]))]:
                with self.assertRaises(InvalidMatch):
                    one | other

    def test_too_many_rules(self):
        one, other = Book(SIGNS, many_rules(1500)), Book(SIGNS, many_rules(500, 1500))
        self.assertEqual(len(one | other), 2000)
        self.assertEqual(len(one | Book(SIGNS, many_rules(1000, 1000))), 2000)
        with self.assertRaises(InvalidRules):
            one | Book(SIGNS, many_rules(501, 1500))
        full = Book(SIGNS, many_rules(2000))
        self.assertEqual(full | full, full)
        with self.assertRaises(InvalidRules):
            full | Book(SIGNS, [LEAF])

    def test_invalid_match_comes_first(self):
        with self.assertRaises(InvalidMatch):
            Book(SIGNS, many_rules(2000)) | Book({'a': 0}, [LEAF])


class RulesOfTest(unittest.TestCase):
    def test_indexes(self):
        book = example_book()
        self.assertEqual([book.rules_of(kind) for kind in ['any', 'twin', 'full']], [[0, 1, 2], [3], [4, 5]])
        self.assertEqual([book.rules_of(kind) for kind in ['none', 'a', 'abcdefgh', 'f']], [[], [], [], []])
        # A kind that stands beneath only has no rule of its own.
        self.assertEqual(Book(SIGNS, [TWIN]).rules_of('any'), [])

    def test_invalid_kind(self):
        book = example_book()
        for kind in ODD_NAMES + odd_objects():
            with self.subTest(kind=str(kind)[:60]):
                with self.assertRaises(InvalidKind):
                    book.rules_of(kind)


class RenamedTest(unittest.TestCase):
    def test_renamed(self):
        book = example_book().renamed({'full': 'even', 'any': 'some'})
        self.assertEqual(book.rules, [
            ('some', 'a', (), ()), ('some', 'b', (), ()), ('some', 'f', ('some', 'some'), ()),
            ('twin', 'f', ('some', 'some'), ((0, 1, True),)), ('even', 'a', (), ()),
            ('even', 'f', ('even', 'even'), ((0, 1, True),)),
        ])
        self.assertEqual(book.signs, SIGNS)
        self.assertIsInstance(book, Book)

    def test_signs_keep_their_names(self):
        book = Book(SIGNS, [('a', 'a', (), ()), ('f', 'f', ('a', 'f'), ())])
        self.assertEqual(book.renamed({'a': 'b', 'f': 'x'}).rules, [('b', 'a', (), ()), ('x', 'f', ('b', 'x'), ())])

    def test_exchanged_names(self):
        book = Book(ALL_SIGNS, [('k', 'g', ('l', 'm', 'k'), ()), ('l', 'a', (), ())])
        self.assertEqual(book.renamed({'k': 'l', 'l': 'k'}).rules, [('l', 'g', ('k', 'm', 'l'), ()), ('k', 'a', (), ())])
        self.assertEqual(
            book.renamed({'k': 'l', 'l': 'm', 'm': 'k'}).rules, [('l', 'g', ('m', 'k', 'l'), ()), ('m', 'a', (), ())])
        self.assertEqual(book.renamed({'k': 'l', 'l': 'new'}).kinds, ['l', 'm', 'new'])

    def test_no_new_names(self):
        book = example_book()
        self.assertEqual(book.renamed({}), book)
        self.assertEqual(book.renamed({'any': 'any', 'full': 'full'}), book)
        self.assertEqual(Book(SIGNS, []).renamed({}), Book(SIGNS, []))

    def test_a_kind_beneath_only(self):
        self.assertEqual(Book(SIGNS, [TWIN]).renamed({'any': 'all'}).kinds, ['all', 'twin'])

    def test_names_that_fall_together(self):
        book = example_book()
        for names in [
            {'twin': 'any'}, {'any': 'new', 'full': 'new'}, {'any': 'twin', 'twin': 'full'},
            {'any': 'full', 'twin': 'full', 'full': 'any'}, {'any': 'any', 'full': 'any'},
        ]:
            with self.subTest(names=names):
                with self.assertRaises(InvalidNames):
                    book.renamed(names)

    def test_no_kinds_of_the_book(self):
        book = example_book()
        for kind in ['none', 'a', 'f'] + [name for name in ODD_NAMES if not isinstance(name, (list, dict))]:
            for names in [{kind: 'new'}, {'any': 'some', kind: 'new'}, {kind: kind}]:
                with self.subTest(names=names):
                    with self.assertRaises(InvalidNames):
                        book.renamed(names)
        with self.assertRaises(InvalidNames):
            Book(SIGNS, []).renamed({'any': 'new'})

    def test_no_names(self):
        book = example_book()
        for name in ODD_NAMES + odd_objects():
            with self.subTest(name=str(name)[:60]):
                with self.assertRaises(InvalidNames):
                    book.renamed({'any': name})
                with self.assertRaises(InvalidNames):
                    book.renamed({'full': 'even', 'any': name})

    def test_no_dicts(self):
        book = example_book()
        for names in odd_objects() + [[('any', 'new')], 'any', 0, 1, A, B]:
            if names != {}:
                with self.subTest(names=str(names)[:60]):
                    with self.assertRaises(InvalidNames):
                        book.renamed(names)


class ClassTest(unittest.TestCase):
    def test_methods_stand_in_the_class(self):
        for name in ['signs', 'rules', 'kinds', 'rules_of', 'renamed', '__init__', '__len__', '__eq__', '__or__']:
            self.assertIn(name, vars(Book))
        self.assertEqual(Book.__module__, 'likeboughs.books')


if __name__ == '__main__':
    unittest.main()
