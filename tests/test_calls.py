"""What holds of all calls: which error comes first, and that arguments and answers stay apart."""

import copy
import inspect
import unittest
from itertools import permutations, product

from likeboughs.books import Book
from likeboughs.counting import count, listed
from likeboughs.finite import all_trees, is_ring, ring
from likeboughs.made import least_size
from likeboughs.needless import needless_asks, needless_rules
from likeboughs.nets import is_net
from likeboughs.plain import is_parted_row
from likeboughs.readings import is_of, is_reading, lot_of
from likeboughs.steps import patterns
from likeboughs.surroundings import are_kin, is_frame, is_parter
from likeboughs.tables import counts, is_table, table
from tests.calls import CALLS, FAA, FILES, NET, SHORT_TABLE
from tests.samples import A, ANY_RULES, B, SIGNS, asking_book, example_book, odd_objects, short_book


class ErrorsTest(unittest.TestCase):
    def test_each_listed_error_for_any_object(self):
        for call, taken, errors in CALLS:
            for name, error, things in errors:
                for thing in things:
                    with self.subTest(call=call.__name__, name=name, thing=str(thing)[:60]):
                        with self.assertRaises(error) as caught:
                            call(**{**taken, name: thing})
                        self.assertIs(type(caught.exception), error)

    def test_the_error_listed_first(self):
        for call, taken, errors in CALLS:
            for at, (name, error, things) in enumerate(errors):
                behind = errors[at + 1:]
                for rows in product(*[[taken[other], wrong[0], wrong[-1]] for other, _, wrong in behind]):
                    others = {other: thing for (other, _, _), thing in zip(behind, rows)}
                    for thing in things[::9]:
                        with self.assertRaises(error) as caught:
                            call(**{**taken, **others, name: thing})
                        self.assertIs(type(caught.exception), error)

    def test_objects_that_are_judged_raise_nothing(self):
        for thing in odd_objects():
            if thing != (0,):
                self.assertIs(is_reading(example_book(), 'any', A, thing), False)
            self.assertIs(is_table(example_book(), thing), False)
            self.assertIs(is_ring(example_book(), 'any', thing), False)
            self.assertIs(is_frame(SIGNS, thing), thing is None or thing == ('f', A, None))
            self.assertIs(is_parter(example_book(), 'any', A, B, thing), False)
            self.assertIs(is_net(SIGNS, thing), thing == [A])
            self.assertIs(is_parted_row(example_book(), 'any', thing), thing == [A])

    def test_failing_calls_change_nothing(self):
        book = example_book()
        for call, taken, errors in CALLS:
            for name, error, things in errors:
                if isinstance(taken.get('book'), Book) and taken['book'] == book and name != 'book':
                    with self.assertRaises(error):
                        call(**{**taken, 'book': book, name: things[0]})
        self.assertEqual(book, example_book())


class ParametersTest(unittest.TestCase):
    def test_by_position_and_by_name(self):
        for call, taken, _ in CALLS:
            with self.subTest(call=call.__name__):
                self.assertEqual(list(inspect.signature(call).parameters), list(taken))
                wanted = call(*taken.values())
                for names in permutations(taken):
                    self.assertEqual(call(**{name: taken[name] for name in names}), wanted)
                for many in range(1, len(taken)):
                    firsts, others = list(taken)[:many], list(taken)[many:]
                    self.assertEqual(call(*[taken[name] for name in firsts], **{name: taken[name] for name in others[::-1]}),
                                     wanted)

    def test_answers(self):
        told = {call.__name__: call(**taken) for call, taken, _ in CALLS}
        told_table, told_ring = told.pop('table'), told.pop('ring')
        self.assertIs(is_table(example_book(), told_table), True)
        self.assertIs(is_ring(example_book(), 'full', told_ring), True)
        self.assertIn(told['parting'], [A, B])
        trees = [A, B, FAA, ('f', A, B), ('f', FAA, FAA)]
        row = told.pop('parted_row')
        self.assertEqual([is_parted_row(example_book(), 'twin', row), len(row)], [True, 3])
        for name, wanted in [('joined', [0, 1, 2, 3, 4]), ('common', [3]), ('without', [0, 1, 2, 4]), ('opposite', [0, 1, 3]),
                             ('cut', [0, 1, 2, 3]), ('of_trees', [0, 2]), ('plain', [3])]:
            book, kind = told.pop(name)
            self.assertEqual([at for at, tree in enumerate(trees) if is_of(book, kind, tree)], wanted)
        self.assertEqual(told, {
            'lot_of': ('any', 'full', 'twin'), 'is_of': True, 'reading': (3, (0,), (0,)), 'is_reading': True,
            'patterns': [(0, 0, 0), (0, 0, 2), (0, 1, 0), (0, 1, 1), (0, 1, 2)], 'pattern_of': (0, 1, 0), 'step': ('any',),
            'counts': {('any',): 4, ('any', 'full'): 1, ('any', 'full', 'twin'): 4, ('any', 'twin'): 4}, 'is_table': True,
            'count': 16, 'listed': told['listed'], 'tree_at': ('f', A, ('f', A, B)), 'place_of': 0,
            'is_made': True, 'least_size': 3, 'least': A, 'is_finite': True, 'all_trees': [('f', A, B), ('f', B, A)],
            'holds': True, 'are_alike': False, 'needless_rules': [0, 1, 2, 3], 'needless_asks': [(3, 0)],
            'without_rule': Book(SIGNS, example_book().rules[1:]), 'parting': told['parting'],
            'without_ask': Book(SIGNS, ANY_RULES + [('twin', 'f', ('any', 'any'), ())] + example_book().rules[4:]),
            'is_ring': True, 'is_frame': True, 'filled': ('f', B, A), 'parter': (None,), 'is_parter': True, 'are_kin': True,
            'is_signs': True, 'is_tree': True, 'size': 3, 'depth': 2, 'parts': [A, FAA], 'is_less': True, 'is_rule': True,
            'trees_of_size': [FAA, ('f', A, B), ('f', B, A), ('f', B, B)], 'least_additions': [[(2, (0, 1, False))]],
            'with_asks': Book(SIGNS, ANY_RULES[:2] + [('any', 'f', ('any', 'any'), ((0, 1, False),))] + example_book().rules[3:]),
            'needs_asks': True, 'is_parted_row': True, 'is_net': True, 'net_sizes': [1, 1, 3, 5], 'same_nodes': [0, 1, 2, 3],
            'least_net': [('a',), ('f', 0, 0), ('f', 1, 0)], 'net_lots': [('any',), ('any', 'full'), ('any', 'full', 'twin'), ('any',)],
            'net_of': [('a',), ('f', 0, 0)], 'tree_of': ('f', FAA, A), 'format_tree': 'f(a,a)', 'format_rule': 'any = a',
            'format_net': 'b a f:1:1 f:2:1', 'format_book': 'signs a:0 b:0 f:2\nleaf = a\nleaf = b\npair = f(leaf,leaf) 0!1',
            'parse_tree': FAA, 'parse_rule': ('any', 'a', (), ()), 'parse_net': NET, 'parse_book': Book(SIGNS, ANY_RULES[:1]),
        })
        self.assertEqual([len(told['listed']), told['listed'][1]], [16, told['tree_at']])

    def test_functions_stand_in_their_files(self):
        for module, functions in FILES.items():
            for function in functions:
                self.assertTrue(inspect.isfunction(function))
                self.assertEqual(function.__module__, module.__name__)
        self.assertEqual([call for functions in FILES.values() for call in functions], [call for call, _, _ in CALLS])


class AnswersTest(unittest.TestCase):
    def test_arguments_stay_as_they_were(self):
        for call, taken, _ in CALLS:
            with self.subTest(call=call.__name__):
                given = copy.deepcopy(taken)
                call(**given)
                self.assertEqual(given, taken)
                for name, thing in given.items():
                    if isinstance(thing, dict):
                        self.assertEqual(list(thing.items()), list(taken[name].items()))
                    if isinstance(thing, Book):
                        self.assertEqual([thing.signs, thing.rules, thing.kinds],
                                         [taken[name].signs, taken[name].rules, taken[name].kinds])
        wrong = [SHORT_TABLE[0], (('leaf',), [A, A]), [None], {'a': [A]}]
        held = copy.deepcopy(wrong)
        is_table(short_book(), wrong)
        is_reading(short_book(), 'leaf', A, wrong)
        is_ring(short_book(), 'leaf', wrong)
        is_parter(short_book(), 'leaf', A, B, wrong)
        is_frame(SIGNS, wrong)
        self.assertEqual(wrong, held)

    def test_the_same_question_again(self):
        books = [example_book(), short_book(), asking_book(), Book(SIGNS, []), Book({'f': 2}, [])]
        wanted = [call(**taken) for call, taken, _ in CALLS]
        for book in books:
            for other in books:
                counts(other)
                listed(other, 'any', 3)
                ring(other, 'any')
                are_kin(other, 'twin', A, B) if other.signs == SIGNS else None
            self.assertEqual(counts(book), counts(copy.deepcopy(book)))
            self.assertEqual(table(book), table(copy.deepcopy(book)))
            for kind in book.kinds:
                self.assertEqual(ring(book, kind), ring(copy.deepcopy(book), kind))
                self.assertEqual(least_size(book, kind), least_size(copy.deepcopy(book), kind))
        for _ in range(2):
            self.assertEqual([call(**taken) for call, taken, _ in CALLS], wanted)
            self.assertEqual([call(**taken) for call, taken, _ in reversed(CALLS)], wanted[::-1])

    def test_one_kind_in_several_books(self):
        books = [Book(SIGNS, [('k', sign, (), ())]) for sign in 'ab'] + [Book(SIGNS, []), Book({'a': 0}, [('k', 'a', (), ())])]
        for _ in range(3):
            self.assertEqual([count(book, 'k', 1) for book in books], [1, 1, 0, 1])
            self.assertEqual([listed(book, 'k', 1) for book in books], [[A], [B], [], [A]])
            self.assertEqual([lot_of(book, A) for book in books], [('k',), (), (), ('k',)])
            self.assertEqual([all_trees(book, 'k') for book in books], [[A], [B], [], [A]])
            self.assertEqual([least_size(book, 'k') for book in books], [1, 1, None, 1])
            self.assertEqual([are_kin(book, 'k', A, B) for book in books[:3]], [False, False, True])
            self.assertEqual([counts(book) for book in books],
                             [{(): 4, ('k',): 1}, {(): 4, ('k',): 1}, {(): 4}, {('k',): 1}])

    def test_lists_and_dicts_are_new(self):
        book = example_book()
        calls = [lambda: patterns(3), lambda: counts(book), lambda: table(book), lambda: listed(book, 'any', 3)]
        calls += [lambda call=call, taken=taken: call(**taken) for call, taken, _ in CALLS if isinstance(call(**taken), list)]
        calls += [lambda: all_trees(short_book(), 'pair'), lambda: needless_rules(book, 'full'), lambda: needless_asks(book, 'full')]
        for call in calls + [lambda: needless_rules(book, 'any')]:
            told = call()
            wanted = copy.deepcopy(told)
            self.assertIsNot(call(), told)
            told.clear()
            self.assertEqual(call(), wanted)
        told = table(book)
        wanted = copy.deepcopy(told)
        self.assertEqual(len({id(trees) for _, trees in told}), len(told))
        for _, trees in told:
            trees.clear()
        self.assertEqual(table(book), wanted)
        self.assertEqual(book, example_book())

    def test_answers_of_the_kinds_told(self):
        bools = ['is_of', 'is_reading', 'is_table', 'is_made', 'is_finite', 'is_ring', 'is_frame', 'is_parter', 'are_kin',
                 'holds', 'are_alike', 'is_signs', 'is_tree', 'is_less', 'is_rule', 'needs_asks', 'is_parted_row', 'is_net']
        tuples = ['lot_of', 'reading', 'pattern_of', 'step', 'tree_at', 'least', 'ring', 'filled', 'parter',
                  'parting', 'joined', 'common', 'without', 'opposite', 'cut', 'of_trees', 'plain', 'tree_of', 'parse_tree', 'parse_rule']
        lists = ['patterns', 'table', 'listed', 'all_trees', 'needless_rules', 'needless_asks', 'parts', 'trees_of_size', 'least_additions',
                 'parted_row', 'net_sizes', 'same_nodes', 'least_net', 'net_lots', 'net_of', 'parse_net']
        numbers = ['count', 'place_of', 'least_size', 'size', 'depth']
        made_books = ['without_rule', 'without_ask', 'with_asks', 'parse_book']
        wanted = {**dict.fromkeys(bools, bool), **dict.fromkeys(tuples, tuple), **dict.fromkeys(lists, list),
                  **dict.fromkeys(numbers, int), 'counts': dict, **dict.fromkeys(made_books, Book),
                  **dict.fromkeys(['format_tree', 'format_rule', 'format_net', 'format_book'], str)}
        self.assertEqual({call.__name__: type(call(**taken)) for call, taken, _ in CALLS}, wanted)
        for lot, trees in table(example_book()):
            self.assertEqual([type(lot), type(trees)], [tuple, list])


if __name__ == '__main__':
    unittest.main()
