"""The examples of the document, as they stand there."""

import doctest
import unittest

STAGES = {
    'Stage 1: trees': """
>>> from likeboughs.trees import depth, is_less, is_tree, parts, size, trees_of_size
>>> signs, a, b = {'a': 0, 'b': 0, 'f': 2}, ('a',), ('b',)
>>> [size(signs, ('f', a, ('f', b, a))), depth(signs, ('f', a, ('f', b, a))), is_tree(signs, ('f', a))]
[5, 3, False]
>>> parts(signs, ('f', ('f', b, a), a))
[('a',), ('b',), ('f', ('b',), ('a',)), ('f', ('f', ('b',), ('a',)), ('a',))]
>>> trees_of_size(signs, 3)
[('f', ('a',), ('a',)), ('f', ('a',), ('b',)), ('f', ('b',), ('a',)), ('f', ('b',), ('b',))]
>>> [is_less(signs, b, ('f', a, a)), len(trees_of_size(signs, 7)), trees_of_size(signs, 4)]
[True, 80, []]
""",
    'Stage 2: books': """
>>> from likeboughs.books import Book, is_rule
>>> any_rules = [('any', 'a', (), ()), ('any', 'b', (), ()), ('any', 'f', ('any', 'any'), ())]
>>> book = Book(signs, any_rules + [('twin', 'f', ('any', 'any'), ((0, 1, True),)), ('full', 'a', (), ()), ('full', 'f', ('full', 'full'), ((0, 1, True),))])
>>> [book.kinds, len(book), book.rules_of('full'), is_rule(signs, ('any', 'f', ('any', 'any'), ((1, 0, True),)))]
[['any', 'full', 'twin'], 6, [4, 5], False]
>>> [book == Book(signs, book.rules), len(book | Book(signs, any_rules)), book.renamed({'twin': 'pair'}).kinds]
[True, 6, ['any', 'full', 'pair']]
""",
    'Stage 3: readings': """
>>> from likeboughs.readings import is_of, is_reading, lot_of, reading
>>> four = ('f', ('f', a, a), ('f', a, a))
>>> [lot_of(book, four), lot_of(book, ('f', a, b)), is_of(book, 'twin', ('f', b, b))]
[('any', 'full', 'twin'), ('any',), True]
>>> reading(book, 'full', four)
(5, (5, (4,), (4,)), (5, (4,), (4,)))
>>> [reading(book, 'full', ('f', a, b)), is_reading(book, 'any', ('f', a, a), (2, (0,), (4,)))]
[None, False]
""",
    'Stage 4: steps': """
>>> from likeboughs.steps import pattern_of, patterns, step
>>> [patterns(2), len(patterns(3)), pattern_of(signs, [a, b, a])]
[[(0, 0), (0, 1)], 5, (0, 1, 0)]
>>> [step(book, 'f', (('any',), ('any',)), (0, 0)), step(book, 'f', (('any', 'full'), ('any', 'full')), (0, 1))]
[('any', 'twin'), ('any',)]
""",
    'Stage 5: tables': """
>>> from likeboughs.tables import counts, is_table, table
>>> counts(book)
{('any',): 4, ('any', 'full'): 1, ('any', 'full', 'twin'): 4, ('any', 'twin'): 4}
>>> short = Book(signs, [('leaf', 'a', (), ()), ('leaf', 'b', (), ()), ('pair', 'f', ('leaf', 'leaf'), ((0, 1, False),))])
>>> counts(short)
{(): 4, ('leaf',): 2, ('pair',): 2}
>>> [is_table(book, table(book)), is_table(short, table(short)[:-1])]
[True, False]
""",
    'Stage 6: kinds that are made': """
>>> from likeboughs.made import is_made, least, least_size
>>> [least_size(book, 'twin'), least(book, 'full'), is_made(book, 'none')]
[3, ('a',), False]
>>> thin = Book(signs, [('leaf', 'a', (), ()), ('odd', 'f', ('leaf', 'leaf'), ((0, 1, False),))])
>>> [is_made(thin, 'odd'), least(thin, 'odd')]
[False, None]
""",
    'Stage 7: kinds without end': """
>>> from likeboughs.finite import all_trees, is_finite, is_ring, ring
>>> [is_finite(book, 'full'), is_finite(short, 'pair'), all_trees(short, 'pair')]
[False, True, [('f', ('a',), ('b',)), ('f', ('b',), ('a',))]]
>>> [is_ring(book, 'full', (four, ('f', None, None), None)), is_ring(book, 'full', (four, ('f', None, a), None)), ring(short, 'pair')]
[True, False, None]
""",
    'Stage 8: kinds beside kinds': """
>>> from likeboughs.beside import are_alike, holds, parting
>>> [holds(book, 'any', book, 'twin'), holds(book, 'twin', book, 'full'), parting(book, 'twin', book, 'full')]
[True, False, ('a',)]
>>> same = Book(signs, any_rules + [('twin', 'f', ('any', 'any'), ((0, 1, True),))])
>>> [are_alike(book, 'twin', same, 'twin'), parting(book, 'twin', same, 'twin')]
[True, None]
""",
    'Stage 9: numbers of trees': """
>>> from likeboughs.counting import count, listed, place_of, tree_at
>>> [count(book, 'any', 9), count(book, 'twin', 7), count(book, 'full', 31), count(book, 'any', 39)]
[448, 4, 1, 1853109766717440]
>>> [listed(book, 'twin', 3), tree_at(book, 'any', 3, 1), place_of(book, 'any', ('f', b, a))]
[[('f', ('a',), ('a',)), ('f', ('b',), ('b',))], ('f', ('a',), ('b',)), 2]
""",
    'Stage 10: kinds joined': """
>>> from likeboughs.joined import common, joined, opposite, without
>>> untwin, kind = opposite(book, 'twin')
>>> [is_of(untwin, kind, ('f', a, b)), is_of(untwin, kind, ('f', b, b))]
[True, False]
>>> both, shared = common(book, 'twin', book, 'full')
>>> some, mixed = joined(short, 'pair', short, 'leaf')
>>> [is_of(both, shared, four), is_of(both, shared, a), is_of(some, mixed, b), is_of(some, mixed, ('f', a, a))]
[True, False, True, False]
>>> less, rest = without(book, 'any', book, 'twin')
>>> [is_of(less, rest, b), is_of(less, rest, four)]
[True, False]
""",
    'Stage 11: kinds cut': """
>>> from likeboughs.cuts import cut, of_trees
>>> low, few = cut(book, 'twin', 5)
>>> [is_of(low, few, ('f', b, b)), is_of(low, few, four), is_of(low, few, b)]
[True, False, False]
>>> told, listed_kind = of_trees(signs, [b, ('f', a, b), b])
>>> [is_of(told, listed_kind, tree) for tree in [b, ('f', a, b), a, ('f', b, a)]]
[True, True, False, False]
""",
    'Stage 12: needless rules and asks': """
>>> from likeboughs.needless import needless_asks, needless_rules, without_ask, without_rule
>>> [needless_rules(book, 'full'), without_rule(book, 3).kinds]
[[0, 1, 2, 3], ['any', 'full']]
>>> [needless_asks(book, 'full'), needless_asks(thin, 'leaf'), without_ask(thin, 1, 0).rules[1]]
[[(3, 0)], [(1, 0)], ('odd', 'f', ('leaf', 'leaf'), ())]
""",
    'Stage 14: surroundings': """
>>> from likeboughs.surroundings import are_kin, filled, is_frame, is_parter, parter
>>> [filled(signs, ('f', None, ('f', None, b)), a), is_frame(signs, ('f', a, b))]
[('f', ('a',), ('f', ('a',), ('b',))), False]
>>> [is_parter(book, 'twin', a, b, ('f', None, a)), is_parter(book, 'twin', a, b, parter(book, 'twin', a, b)[0]), are_kin(book, 'any', a, b)]
[True, True, True]
>>> [are_kin(short, 'pair', a, b), are_kin(short, 'pair', ('f', a, a), four), is_parter(short, 'leaf', a, four, None), are_kin(short, 'leaf', a, four)]
[False, True, True, False]
""",
}


class ExamplesTest(unittest.TestCase):
    def test_each_stage(self):
        names = {}
        for stage, text in STAGES.items():
            with self.subTest(stage=stage):
                # Later stages use the names of earlier ones.
                test = doctest.DocTestParser().get_doctest(text, names, stage, None, None)
                told = []
                result = doctest.DocTestRunner(verbose=False).run(test, out=told.append, clear_globs=False)
                names = test.globs
                self.assertGreater(result.attempted, 0)
                self.assertEqual(result.failed, 0, ''.join(told))


if __name__ == '__main__':
    unittest.main()
