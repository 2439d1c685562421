"""What holds of all calls: which error comes first, and that arguments and answers stay apart."""

import copy
import inspect
import unittest
from itertools import permutations, product

from likeboughs import counting, readings, steps, tables
from likeboughs.books import Book
from likeboughs.counting import count, listed, place_of, tree_at
from likeboughs.errors import (
    InvalidBook, InvalidKind, InvalidLots, InvalidNumber, InvalidPattern, InvalidSigns, InvalidTree, InvalidTrees,
    UnknownSign,
)
from likeboughs.readings import is_of, is_reading, lot_of, reading
from likeboughs.steps import pattern_of, patterns, step
from likeboughs.tables import counts, is_table, table
from tests.samples import A, B, ODD_NAMES, SIGNS, asking_book, example_book, odd_objects, short_book

FAA = ('f', A, A)
SHORT_TABLE = table(short_book())
ODD_BOOKS = [thing for thing in odd_objects() if not isinstance(thing, Book)] + [
    Book, SIGNS, [('any', 'a', (), ())], (SIGNS, []), 'book',
]
ODD_KINDS = ODD_NAMES + odd_objects()
ODD_TREES = odd_objects() + ['a', ('s', A), ('f', A), ['a'], ('f', A, ['a']), ('a', A)]
ODD_NUMBERS = odd_objects() + [0, 4.0, '1', (1,)]
ODD_SIGNS = odd_objects()
# Each call with arguments that it takes, and the errors in the order in which the document lists them.
CALLS = [
    (lot_of, {'book': example_book(), 'tree': FAA}, [('book', InvalidBook, ODD_BOOKS), ('tree', InvalidTree, ODD_TREES)]),
    (is_of, {'book': example_book(), 'kind': 'twin', 'tree': FAA}, [
        ('book', InvalidBook, ODD_BOOKS), ('kind', InvalidKind, ODD_KINDS), ('tree', InvalidTree, ODD_TREES)]),
    (reading, {'book': example_book(), 'kind': 'twin', 'tree': FAA}, [
        ('book', InvalidBook, ODD_BOOKS), ('kind', InvalidKind, ODD_KINDS), ('tree', InvalidTree, ODD_TREES)]),
    (is_reading, {'book': example_book(), 'kind': 'twin', 'tree': FAA, 'thing': (3, (0,), (0,))}, [
        ('book', InvalidBook, ODD_BOOKS), ('kind', InvalidKind, ODD_KINDS), ('tree', InvalidTree, ODD_TREES)]),
    (patterns, {'many': 3}, [('many', InvalidNumber, [4, -1] + odd_objects())]),
    (pattern_of, {'signs': SIGNS, 'trees': [A, B, A]}, [
        ('signs', InvalidSigns, ODD_SIGNS), ('trees', InvalidTrees, [[A] * 4, (A,), A, None, [None], [A, 'a'], {}])]),
    (step, {'book': example_book(), 'sign': 'f', 'lots': (('any',), ('any',)), 'pattern': (0, 1)}, [
        ('book', InvalidBook, ODD_BOOKS), ('sign', UnknownSign, ODD_NAMES + odd_objects() + ['c']),
        ('lots', InvalidLots, odd_objects() + [(('any',),), (('none',), ('any',)), (('any',), ['any'])]),
        ('pattern', InvalidPattern, odd_objects() + [(0,), (1, 1), (0, True), [0, 1]])]),
    (counts, {'book': example_book()}, [('book', InvalidBook, ODD_BOOKS)]),
    (table, {'book': example_book()}, [('book', InvalidBook, ODD_BOOKS)]),
    (is_table, {'book': short_book(), 'thing': SHORT_TABLE}, [('book', InvalidBook, ODD_BOOKS)]),
    (count, {'book': example_book(), 'kind': 'any', 'size': 5}, [
        ('book', InvalidBook, ODD_BOOKS), ('kind', InvalidKind, ODD_KINDS), ('size', InvalidNumber, ODD_NUMBERS)]),
    (listed, {'book': example_book(), 'kind': 'any', 'size': 5}, [
        ('book', InvalidBook, ODD_BOOKS), ('kind', InvalidKind, ODD_KINDS), ('size', InvalidNumber, ODD_NUMBERS)]),
    (tree_at, {'book': example_book(), 'kind': 'any', 'size': 5, 'index': 1}, [
        ('book', InvalidBook, ODD_BOOKS), ('kind', InvalidKind, ODD_KINDS), ('size', InvalidNumber, ODD_NUMBERS),
        ('index', InvalidNumber, odd_objects() + [16])]),
    (place_of, {'book': example_book(), 'kind': 'any', 'tree': FAA}, [
        ('book', InvalidBook, ODD_BOOKS), ('kind', InvalidKind, ODD_KINDS), ('tree', InvalidTree, ODD_TREES)]),
]


class ErrorsTest(unittest.TestCase):
    def test_each_listed_error_for_any_object(self):
        for call, taken, errors in CALLS:
            for name, error, things in errors:
                for thing in things:
                    with self.subTest(call=call.__name__, name=name, thing=str(thing)[:60]):
                        with self.assertRaises(error) as caught:
                            call(**{**taken, name: thing})
                        self.assertIs(type(caught.exception), error)

    def test_the_error_listed_first(self):
        for call, taken, errors in CALLS:
            for at, (name, error, things) in enumerate(errors):
                behind = errors[at + 1:]
                for rows in product(*[[taken[other], wrong[0], wrong[-1]] for other, _, wrong in behind]):
                    others = {other: thing for (other, _, _), thing in zip(behind, rows)}
                    for thing in things[::9]:
                        with self.assertRaises(error) as caught:
                            call(**{**taken, **others, name: thing})
                        self.assertIs(type(caught.exception), error)

    def test_objects_that_are_judged_raise_nothing(self):
        for thing in odd_objects():
            if thing != (0,):
                self.assertIs(is_reading(example_book(), 'any', A, thing), False)
            self.assertIs(is_table(example_book(), thing), False)

    def test_failing_calls_change_nothing(self):
        book = example_book()
        for call, taken, errors in CALLS:
            for name, error, things in errors:
                if 'book' in taken and name != 'book':
                    with self.assertRaises(error):
                        call(**{**taken, 'book': book, name: things[0]})
        self.assertEqual(book, example_book())


class ParametersTest(unittest.TestCase):
    def test_by_position_and_by_name(self):
        for call, taken, _ in CALLS:
            with self.subTest(call=call.__name__):
                self.assertEqual(list(inspect.signature(call).parameters), list(taken))
                wanted = call(*taken.values())
                for names in permutations(taken):
                    self.assertEqual(call(**{name: taken[name] for name in names}), wanted)
                for many in range(1, len(taken)):
                    firsts, others = list(taken)[:many], list(taken)[many:]
                    self.assertEqual(call(*[taken[name] for name in firsts], **{name: taken[name] for name in others[::-1]}),
                                     wanted)

    def test_answers(self):
        told = {call.__name__: call(**taken) for call, taken, _ in CALLS}
        told_table = told.pop('table')
        self.assertIs(is_table(example_book(), told_table), True)
        self.assertEqual(told, {
            'lot_of': ('any', 'full', 'twin'), 'is_of': True, 'reading': (3, (0,), (0,)), 'is_reading': True,
            'patterns': [(0, 0, 0), (0, 0, 2), (0, 1, 0), (0, 1, 1), (0, 1, 2)], 'pattern_of': (0, 1, 0), 'step': ('any',),
            'counts': {('any',): 4, ('any', 'full'): 1, ('any', 'full', 'twin'): 4, ('any', 'twin'): 4}, 'is_table': True,
            'count': 16, 'listed': told['listed'], 'tree_at': ('f', A, ('f', A, B)), 'place_of': 0,
        })
        self.assertEqual([len(told['listed']), told['listed'][1]], [16, told['tree_at']])

    def test_functions_stand_in_their_files(self):
        files = {
            readings: [lot_of, is_of, reading, is_reading], steps: [patterns, pattern_of, step],
            tables: [counts, table, is_table], counting: [count, listed, tree_at, place_of],
        }
        for module, functions in files.items():
            for function in functions:
                self.assertTrue(inspect.isfunction(function))
                self.assertEqual(function.__module__, module.__name__)
        self.assertEqual(sum(len(functions) for functions in files.values()), len(CALLS))


class AnswersTest(unittest.TestCase):
    def test_arguments_stay_as_they_were(self):
        for call, taken, _ in CALLS:
            with self.subTest(call=call.__name__):
                given = copy.deepcopy(taken)
                call(**given)
                self.assertEqual(given, taken)
                for name, thing in given.items():
                    if isinstance(thing, dict):
                        self.assertEqual(list(thing.items()), list(taken[name].items()))
                    if isinstance(thing, Book):
                        self.assertEqual([thing.signs, thing.rules, thing.kinds],
                                         [taken[name].signs, taken[name].rules, taken[name].kinds])
        wrong = [SHORT_TABLE[0], (('leaf',), [A, A]), [None], {'a': [A]}]
        held = copy.deepcopy(wrong)
        is_table(short_book(), wrong)
        is_reading(short_book(), 'leaf', A, wrong)
        self.assertEqual(wrong, held)

    def test_the_same_question_again(self):
        books = [example_book(), short_book(), asking_book(), Book(SIGNS, []), Book({'f': 2}, [])]
        wanted = [call(**taken) for call, taken, _ in CALLS]
        for book in books:
            for other in books:
                counts(other)
                listed(other, 'any', 3)
            self.assertEqual(counts(book), counts(copy.deepcopy(book)))
            self.assertEqual(table(book), table(copy.deepcopy(book)))
        for _ in range(2):
            self.assertEqual([call(**taken) for call, taken, _ in CALLS], wanted)
            self.assertEqual([call(**taken) for call, taken, _ in reversed(CALLS)], wanted[::-1])

    def test_one_kind_in_several_books(self):
        books = [Book(SIGNS, [('k', sign, (), ())]) for sign in 'ab'] + [Book(SIGNS, []), Book({'a': 0}, [('k', 'a', (), ())])]
        for _ in range(3):
            self.assertEqual([count(book, 'k', 1) for book in books], [1, 1, 0, 1])
            self.assertEqual([listed(book, 'k', 1) for book in books], [[A], [B], [], [A]])
            self.assertEqual([lot_of(book, A) for book in books], [('k',), (), (), ('k',)])
            self.assertEqual([counts(book) for book in books],
                             [{(): 4, ('k',): 1}, {(): 4, ('k',): 1}, {(): 4}, {('k',): 1}])

    def test_lists_and_dicts_are_new(self):
        book = example_book()
        for call in [lambda: patterns(3), lambda: counts(book), lambda: table(book), lambda: listed(book, 'any', 3)]:
            told = call()
            wanted = copy.deepcopy(told)
            self.assertIsNot(call(), told)
            told.clear()
            self.assertEqual(call(), wanted)
        told = table(book)
        wanted = copy.deepcopy(told)
        self.assertEqual(len({id(trees) for _, trees in told}), len(told))
        for _, trees in told:
            trees.clear()
        self.assertEqual(table(book), wanted)
        self.assertEqual(book, example_book())

    def test_answers_of_the_kinds_told(self):
        bools = ['is_of', 'is_reading', 'is_table']
        tuples = ['lot_of', 'reading', 'pattern_of', 'step', 'tree_at']
        lists, numbers = ['patterns', 'table', 'listed'], ['count', 'place_of']
        wanted = {**dict.fromkeys(bools, bool), **dict.fromkeys(tuples, tuple), **dict.fromkeys(lists, list),
                  **dict.fromkeys(numbers, int), 'counts': dict}
        self.assertEqual({call.__name__: type(call(**taken)) for call, taken, _ in CALLS}, wanted)
        for lot, trees in table(example_book()):
            self.assertEqual([type(lot), type(trees)], [tuple, list])


if __name__ == '__main__':
    unittest.main()
