"""The examples of the document, as they stand there."""

import doctest
import unittest

STAGES = {
    'Stage 1: trees': """
>>> from likeboughs.trees import depth, is_less, is_tree, parts, size, trees_of_size
>>> signs, a, b = {'a': 0, 'b': 0, 'f': 2}, ('a',), ('b',)
>>> [size(signs, ('f', a, ('f', b, a))), depth(signs, ('f', a, ('f', b, a))), is_tree(signs, ('f', a))]
[5, 3, False]
>>> parts(signs, ('f', ('f', b, a), a))
[('a',), ('b',), ('f', ('b',), ('a',)), ('f', ('f', ('b',), ('a',)), ('a',))]
>>> trees_of_size(signs, 3)
[('f', ('a',), ('a',)), ('f', ('a',), ('b',)), ('f', ('b',), ('a',)), ('f', ('b',), ('b',))]
>>> [is_less(signs, b, ('f', a, a)), len(trees_of_size(signs, 7)), trees_of_size(signs, 4)]
[True, 80, []]
""",
    'Stage 2: books': """
>>> from likeboughs.books import Book, is_rule
>>> any_rules = [('any', 'a', (), ()), ('any', 'b', (), ()), ('any', 'f', ('any', 'any'), ())]
>>> book = Book(signs, any_rules + [('twin', 'f', ('any', 'any'), ((0, 1, True),)), ('full', 'a', (), ()), ('full', 'f', ('full', 'full'), ((0, 1, True),))])
>>> [book.kinds, len(book), book.rules_of('full'), is_rule(signs, ('any', 'f', ('any', 'any'), ((1, 0, True),)))]
[['any', 'full', 'twin'], 6, [4, 5], False]
>>> [book == Book(signs, book.rules), len(book | Book(signs, any_rules)), book.renamed({'twin': 'pair'}).kinds]
[True, 6, ['any', 'full', 'pair']]
""",
    'Stage 3: readings': """
>>> from likeboughs.readings import is_of, is_reading, lot_of, reading
>>> four = ('f', ('f', a, a), ('f', a, a))
>>> [lot_of(book, four), lot_of(book, ('f', a, b)), is_of(book, 'twin', ('f', b, b))]
[('any', 'full', 'twin'), ('any',), True]
>>> reading(book, 'full', four)
(5, (5, (4,), (4,)), (5, (4,), (4,)))
>>> [reading(book, 'full', ('f', a, b)), is_reading(book, 'any', ('f', a, a), (2, (0,), (4,)))]
[None, False]
""",
    'Stage 4: steps': """
>>> from likeboughs.steps import pattern_of, patterns, step
>>> [patterns(2), len(patterns(3)), pattern_of(signs, [a, b, a])]
[[(0, 0), (0, 1)], 5, (0, 1, 0)]
>>> [step(book, 'f', (('any',), ('any',)), (0, 0)), step(book, 'f', (('any', 'full'), ('any', 'full')), (0, 1))]
[('any', 'twin'), ('any',)]
""",
    'Stage 5: tables': """
>>> from likeboughs.tables import counts, is_table, table
>>> counts(book)
{('any',): 4, ('any', 'full'): 1, ('any', 'full', 'twin'): 4, ('any', 'twin'): 4}
>>> short = Book(signs, [('leaf', 'a', (), ()), ('leaf', 'b', (), ()), ('pair', 'f', ('leaf', 'leaf'), ((0, 1, False),))])
>>> counts(short)
{(): 4, ('leaf',): 2, ('pair',): 2}
>>> [is_table(book, table(book)), is_table(short, table(short)[:-1])]
[True, False]
""",
    'Stage 6: kinds that are made': """
>>> from likeboughs.made import is_made, least, least_size
>>> [least_size(book, 'twin'), least(book, 'full'), is_made(book, 'none')]
[3, ('a',), False]
>>> thin = Book(signs, [('leaf', 'a', (), ()), ('odd', 'f', ('leaf', 'leaf'), ((0, 1, False),))])
>>> [is_made(thin, 'odd'), least(thin, 'odd')]
[False, None]
""",
    'Stage 7: kinds without end': """
>>> from likeboughs.finite import all_trees, is_finite, is_ring, ring
>>> [is_finite(book, 'full'), is_finite(short, 'pair'), all_trees(short, 'pair')]
[False, True, [('f', ('a',), ('b',)), ('f', ('b',), ('a',))]]
>>> [is_ring(book, 'full', (four, ('f', None, None), None)), is_ring(book, 'full', (four, ('f', None, a), None)), ring(short, 'pair')]
[True, False, None]
""",
    'Stage 8: kinds beside kinds': """
>>> from likeboughs.beside import are_alike, holds, parting
>>> [holds(book, 'any', book, 'twin'), holds(book, 'twin', book, 'full'), parting(book, 'twin', book, 'full')]
[True, False, ('a',)]
>>> same = Book(signs, any_rules + [('twin', 'f', ('any', 'any'), ((0, 1, True),))])
>>> [are_alike(book, 'twin', same, 'twin'), parting(book, 'twin', same, 'twin')]
[True, None]
""",
    'Stage 9: numbers of trees': """
>>> from likeboughs.counting import count, listed, place_of, tree_at
>>> [count(book, 'any', 9), count(book, 'twin', 7), count(book, 'full', 31), count(book, 'any', 39)]
[448, 4, 1, 1853109766717440]
>>> [listed(book, 'twin', 3), tree_at(book, 'any', 3, 1), place_of(book, 'any', ('f', b, a))]
[[('f', ('a',), ('a',)), ('f', ('b',), ('b',))], ('f', ('a',), ('b',)), 2]
""",
    'Stage 10: kinds joined': """
>>> from likeboughs.joined import common, joined, opposite, without
>>> untwin, kind = opposite(book, 'twin')
>>> [is_of(untwin, kind, ('f', a, b)), is_of(untwin, kind, ('f', b, b))]
[True, False]
>>> both, shared = common(book, 'twin', book, 'full')
>>> some, mixed = joined(short, 'pair', short, 'leaf')
>>> [is_of(both, shared, four), is_of(both, shared, a), is_of(some, mixed, b), is_of(some, mixed, ('f', a, a))]
[True, False, True, False]
>>> less, rest = without(book, 'any', book, 'twin')
>>> [is_of(less, rest, b), is_of(less, rest, four)]
[True, False]
""",
    'Stage 11: kinds cut': """
>>> from likeboughs.cuts import cut, of_trees
>>> low, few = cut(book, 'twin', 5)
>>> [is_of(low, few, ('f', b, b)), is_of(low, few, four), is_of(low, few, b)]
[True, False, False]
>>> told, listed_kind = of_trees(signs, [b, ('f', a, b), b])
>>> [is_of(told, listed_kind, tree) for tree in [b, ('f', a, b), a, ('f', b, a)]]
[True, True, False, False]
""",
    'Stage 12: needless rules and asks': """
>>> from likeboughs.needless import needless_asks, needless_rules, without_ask, without_rule
>>> [needless_rules(book, 'full'), without_rule(book, 3).kinds]
[[0, 1, 2, 3], ['any', 'full']]
>>> [needless_asks(book, 'full'), needless_asks(thin, 'leaf'), without_ask(thin, 1, 0).rules[1]]
[[(3, 0)], [(1, 0)], ('odd', 'f', ('leaf', 'leaf'), ())]
""",
    'Stage 13: asks to add': """
>>> from likeboughs.additions import least_additions, with_asks
>>> with_asks(book, [(2, (0, 1, False))]).rules[2]
('any', 'f', ('any', 'any'), ((0, 1, False),))
>>> least_additions(book, 'any', ('f', a, a))
[[(2, (0, 1, False))]]
>>> least_additions(book, 'any', a)
[]
""",
    'Stage 14: surroundings': """
>>> from likeboughs.surroundings import are_kin, filled, is_frame, is_parter, parter
>>> [filled(signs, ('f', None, ('f', None, b)), a), is_frame(signs, ('f', a, b))]
[('f', ('a',), ('f', ('a',), ('b',))), False]
>>> [is_parter(book, 'twin', a, b, ('f', None, a)), is_parter(book, 'twin', a, b, parter(book, 'twin', a, b)[0]), are_kin(book, 'any', a, b)]
[True, True, True]
>>> [are_kin(short, 'pair', a, b), are_kin(short, 'pair', ('f', a, a), four), is_parter(short, 'leaf', a, four, None), are_kin(short, 'leaf', a, four)]
[False, True, True, False]
""",
    'Stage 15: rules without asks': """
>>> from likeboughs.plain import is_parted_row, needs_asks, parted_row, plain
>>> [needs_asks(book, 'twin'), needs_asks(short, 'pair'), needs_asks(book, 'any'), plain(book, 'full')]
[True, False, False, None]
>>> bare, bare_kind = plain(short, 'pair')
>>> [[is_of(bare, bare_kind, tree) for tree in trees_of_size(signs, 3)], [rule[3] for rule in bare.rules if rule[3] != ()]]
[[False, True, True, False], []]
>>> [is_parted_row(book, 'twin', parted_row(book, 'twin', 6)), is_parted_row(book, 'twin', [a, b, a]), is_parted_row(book, 'any', [a])]
[True, False, True]
""",
    'Stage 16: readers': """
>>> from likeboughs.reader import Reader
>>> reader = Reader(book)
>>> [reader.put('a'), reader.again(0), reader.put('f'), len(reader)]
[('any', 'full'), ('any', 'full'), ('any', 'full', 'twin'), 1]
>>> [[reader.again(0), reader.put('f')][1] for lap in range(100)][-1]
('any', 'full', 'twin')
>>> [reader.sizes == [2 ** 102 - 1], reader.put('b'), reader.same, reader.put('f'), reader.undo(), reader.lots]
[True, ('any',), [0, 1], ('any',), None, [('any', 'full', 'twin'), ('any',)]]
""",
    'Stage 17: nets': """
>>> from likeboughs.nets import is_net, least_net, net_lots, net_of, net_sizes, same_nodes, tree_of
>>> net_of(signs, ('f', ('f', b, a), ('f', b, a)))
[('b',), ('a',), ('f', 0, 1), ('f', 2, 2)]
>>> net = [('a',), ('a',), ('f', 0, 1), ('f', 2, 2), ('b',)]
>>> [net_sizes(signs, net), same_nodes(signs, net), net_lots(book, net)[3], least_net(signs, net[:4])]
[[1, 1, 3, 7, 1], [0, 0, 2, 3, 4], ('any', 'full', 'twin'), [('a',), ('f', 0, 0), ('f', 1, 1)]]
>>> [tree_of(signs, net[:3]), is_net(signs, [('f', 0, 0)])]
[('f', ('a',), ('a',)), False]
""",
    'Stage 18: drafts': """
>>> from likeboughs.draft import Draft
>>> draft = Draft(signs)
>>> [draft.add(('any', 'a', (), ())), draft.want('any', a, True), draft.want('any', b, True), draft.failing()]
[None, None, None, [1]]
>>> [draft.helping(('any', 'b', (), ())), draft.add(('any', 'b', (), ())), draft.failing(), len(draft), draft.undo(steps=2), draft.wishes]
[[1], None, [], 4, None, [('any', ('a',), True)]]
""",
    'Stage 19: texts': """
>>> from likeboughs.texts import format_book, format_net, format_rule, format_tree, parse_book, parse_net, parse_rule, parse_tree
>>> [format_tree(signs, four), parse_tree(signs, 'f(b,f(a,a))') == ('f', b, ('f', a, a))]
['f(f(a,a),f(a,a))', True]
>>> [format_rule(signs, book.rules[3]), parse_rule(signs, 'odd = f(leaf,leaf) 0!1')]
['twin = f(any,any) 0=1', ('odd', 'f', ('leaf', 'leaf'), ((0, 1, False),))]
>>> [format_book(thin).split('\\n'), parse_book(format_book(book)) == book, parse_net(signs, 'a f:0:0')]
[['signs a:0 b:0 f:2', 'leaf = a', 'odd = f(leaf,leaf) 0!1'], True, [('a',), ('f', 0, 0)]]
>>> parse_book('signs a:0\\nk = a\\nk = b')
Traceback (most recent call last):
likeboughs.errors.ParseError: line 2 cannot be read
""",
    'Stage 20: the shell': """
>>> from likeboughs.shell import Shell
>>> shell = Shell()
>>> [shell.run(line) for line in ['book one signs_a:0_b:0_f:2/leaf_=_a/leaf_=_b/pair_=_f(leaf,leaf)_0!1', 'of one pair f(a,b)', 'counts one', 'end one pair']]
['ok', 'yes', '-=4 leaf=2 pair=2', 'yes']
>>> [shell.run(line) for line in ['made one pair', 'count one pair 3', 'asks one pair', 'needless one pair', 'lot one f(a,a)', 'names']]
['3', '2', 'no', 'none', '-', 'one']
""",
}


class ExamplesTest(unittest.TestCase):
    def test_each_stage(self):
        names = {}
        for stage, text in STAGES.items():
            with self.subTest(stage=stage):
                # Later stages use the names of earlier ones.
                test = doctest.DocTestParser().get_doctest(text, names, stage, None, None)
                told = []
                result = doctest.DocTestRunner(verbose=False).run(test, out=told.append, clear_globs=False)
                names = test.globs
                self.assertGreater(result.attempted, 0)
                self.assertEqual(result.failed, 0, ''.join(told))


if __name__ == '__main__':
    unittest.main()
