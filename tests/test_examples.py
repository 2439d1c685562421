"""The examples of the document, as they stand there."""

import doctest
import unittest

STAGES = {
    'Stage 1: trees': """
>>> from likeboughs.trees import depth, is_less, is_tree, parts, size, trees_of_size
>>> signs, a, b = {'a': 0, 'b': 0, 'f': 2}, ('a',), ('b',)
>>> [size(signs, ('f', a, ('f', b, a))), depth(signs, ('f', a, ('f', b, a))), is_tree(signs, ('f', a))]
[5, 3, False]
>>> parts(signs, ('f', ('f', b, a), a))
[('a',), ('b',), ('f', ('b',), ('a',)), ('f', ('f', ('b',), ('a',)), ('a',))]
>>> trees_of_size(signs, 3)
[('f', ('a',), ('a',)), ('f', ('a',), ('b',)), ('f', ('b',), ('a',)), ('f', ('b',), ('b',))]
>>> [is_less(signs, b, ('f', a, a)), len(trees_of_size(signs, 7)), trees_of_size(signs, 4)]
[True, 80, []]
""",
    'Stage 2: books': """
>>> from likeboughs.books import Book, is_rule
>>> any_rules = [('any', 'a', (), ()), ('any', 'b', (), ()), ('any', 'f', ('any', 'any'), ())]
>>> book = Book(signs, any_rules + [('twin', 'f', ('any', 'any'), ((0, 1, True),)), ('full', 'a', (), ()), ('full', 'f', ('full', 'full'), ((0, 1, True),))])
>>> [book.kinds, len(book), book.rules_of('full'), is_rule(signs, ('any', 'f', ('any', 'any'), ((1, 0, True),)))]
[['any', 'full', 'twin'], 6, [4, 5], False]
>>> [book == Book(signs, book.rules), len(book | Book(signs, any_rules)), book.renamed({'twin': 'pair'}).kinds]
[True, 6, ['any', 'full', 'pair']]
""",
}


class ExamplesTest(unittest.TestCase):
    def test_each_stage(self):
        names = {}
        for stage, text in STAGES.items():
            with self.subTest(stage=stage):
                # Later stages use the names of earlier ones.
                test = doctest.DocTestParser().get_doctest(text, names, stage, None, None)
                told = []
                result = doctest.DocTestRunner(verbose=False).run(test, out=told.append, clear_globs=False)
                names = test.globs
                self.assertGreater(result.attempted, 0)
                self.assertEqual(result.failed, 0, ''.join(told))


if __name__ == '__main__':
    unittest.main()
