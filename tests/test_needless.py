"""Rules and asks without which a kind has the same trees."""

import unittest

from likeboughs.beside import are_alike
from likeboughs.books import Book
from likeboughs.errors import InvalidNumber
from likeboughs.joined import joined, opposite
from likeboughs.needless import needless_asks, needless_rules, without_ask, without_rule
from likeboughs.tables import counts
from tests.plain import plain_of, plain_trees, random_books
from tests.samples import A, ANY_RULES, SIGNS, asking_book, example_book, odd_objects, short_book

NEVER = ((0, 1, False), (0, 1, True))


class WithoutTest(unittest.TestCase):
    def test_without_rule(self):
        book = example_book()
        for index in range(len(book)):
            rules = book.rules
            del rules[index]
            self.assertEqual(without_rule(book, index), Book(SIGNS, rules))
        self.assertEqual([len(book), without_rule(Book(SIGNS, ANY_RULES[:1]), 0)], [6, Book(SIGNS, [])])
        twice = Book(SIGNS, ANY_RULES + ANY_RULES)
        self.assertEqual(without_rule(twice, 4).rules, ANY_RULES + [ANY_RULES[0], ANY_RULES[2]])

    def test_without_ask(self):
        signs = {'a': 0, 'g': 3}
        asks = ((0, 1, False), (0, 2, True), (1, 2, False))
        book = Book(signs, [('k', 'a', (), ()), ('k', 'g', ('k', 'k', 'k'), asks), ('l', 'g', ('k', 'k', 'k'), asks[:1])])
        for ask in range(3):
            wanted = ('k', 'g', ('k', 'k', 'k'), asks[:ask] + asks[ask + 1:])
            self.assertEqual(without_ask(book, 1, ask), Book(signs, [book.rules[0], wanted, book.rules[2]]))
        self.assertEqual(without_ask(book, 2, 0).rules[2], ('l', 'g', ('k', 'k', 'k'), ()))
        self.assertEqual(book.rules[1][3], asks)

    def test_indexes(self):
        book = short_book()
        for index in [-1, 3, 4, 2000, 10 ** 39, True, False, None, '0', (0,), [0], 0.0] + odd_objects():
            with self.subTest(index=str(index)[:60]):
                with self.assertRaises(InvalidNumber):
                    without_rule(book, index)
                with self.assertRaises(InvalidNumber):
                    without_ask(book, index, 0)
        for ask in [-1, 1, 2, True, False, None, '0', (0,), [0]] + odd_objects():
            with self.subTest(ask=str(ask)[:60]):
                with self.assertRaises(InvalidNumber):
                    without_ask(book, 2, ask)
        for index in [0, 1]:
            # These rules have no asks.
            with self.assertRaises(InvalidNumber):
                without_ask(book, index, 0)
        with self.assertRaises(InvalidNumber):
            without_rule(Book(SIGNS, []), 0)
        self.assertEqual([without_rule(book, 0).rules, without_rule(book, 2).rules], [book.rules[1:], book.rules[:2]])


class NeedlessTest(unittest.TestCase):
    def check(self, book, kind, rules=None, asks=None):
        """Check what is needless beside the kind in the book that is left, and beside what is told."""
        told_rules, told_asks = needless_rules(book, kind), needless_asks(book, kind)
        pairs = [(index, ask) for index, rule in enumerate(book.rules) for ask in range(len(rule[3]))]
        self.assertEqual(told_rules, [
            index for index in range(len(book)) if are_alike(book, kind, without_rule(book, index), kind)])
        self.assertEqual(told_asks, [
            (index, ask) for index, ask in pairs if are_alike(book, kind, without_ask(book, index, ask), kind)])
        if rules is not None:
            self.assertEqual([told_rules, told_asks], [rules, asks])

    def test_kinds_of_the_samples(self):
        for book in [example_book(), short_book(), asking_book()]:
            for kind in book.kinds + ['none']:
                self.check(book, kind)
        self.check(example_book(), 'any', [3, 4, 5], [(3, 0), (5, 0)])
        self.check(example_book(), 'twin', [4, 5], [(5, 0)])
        self.check(example_book(), 'full', [0, 1, 2, 3], [(3, 0)])
        self.check(short_book(), 'pair', [], [])
        self.check(short_book(), 'leaf', [2], [(2, 0)])
        self.check(short_book(), 'none', [0, 1, 2], [(2, 0)])

    def test_books_without_rules(self):
        for book in [Book(SIGNS, []), Book({'a': 0}, []), Book({'f': 2}, [])]:
            self.check(book, 'k', [], [])

    def test_rules_that_stand_twice_and_rules_that_another_one_holds(self):
        self.check(Book(SIGNS, ANY_RULES + ANY_RULES), 'any', [0, 1, 2, 3, 4, 5], [])
        self.check(Book(SIGNS, ANY_RULES + ANY_RULES[:1]), 'any', [0, 3], [])
        self.check(Book(SIGNS, ANY_RULES + [('any', 'f', ('any', 'any'), ((0, 1, True),))]), 'any', [3], [(3, 0)])
        # Both rules together hold what one of them does without its ask: then the other one is needless.
        book = Book(SIGNS, ANY_RULES[:2] + [('any', 'f', ('any', 'any'), ((0, 1, same),)) for same in (True, False)])
        self.check(book, 'any', [], [(2, 0), (3, 0)])
        book = Book(SIGNS, ANY_RULES + [('leaf', 'a', (), ()), ('any', 'f', ('leaf', 'any'), ())])
        self.check(book, 'any', [3, 4], [])

    def test_asks_that_never_fail_and_asks_that_cannot_hold(self):
        leaves = [('k', 'a', (), ()), ('l', 'b', (), ())]
        self.check(Book(SIGNS, leaves + [('m', 'f', ('k', 'l'), ((0, 1, False),))]), 'm', [], [(2, 0)])
        self.check(Book(SIGNS, leaves + [('m', 'f', ('k', 'k'), ((0, 1, True),))]), 'm', [1], [(2, 0)])
        self.check(Book(SIGNS, leaves + [('m', 'f', ('k', 'l'), ((0, 1, True),))]), 'm', [0, 1, 2], [])
        self.check(Book(SIGNS, leaves + [('m', 'f', ('k', 'k'), ((0, 1, False),))]), 'm', [0, 1, 2], [])
        self.check(Book(SIGNS, leaves + [('m', 'f', ('k', 'k'), NEVER)]), 'm', [0, 1, 2], [(2, 1)])
        self.check(Book(SIGNS, leaves + [('m', 'f', ('n', 'n'), NEVER)]), 'm', [0, 1, 2], [(2, 0), (2, 1)])
        signs = {'a': 0, 'b': 0, 'g': 3}
        leaves = [('k', 'a', (), ()), ('k', 'b', (), ())]
        # The third ask follows from the others.
        same = ((0, 1, True), (0, 2, True), (1, 2, True))
        self.check(Book(signs, leaves + [('m', 'g', ('k', 'k', 'k'), same)]), 'm', [], [(2, 0), (2, 1), (2, 2)])
        self.check(Book(signs, leaves + [('m', 'g', ('k', 'k', 'k'), same[:2])]), 'm', [], [])
        # Of two leaves one has to be the same as the first, if the second is not.
        asks = ((0, 1, False), (0, 2, True), (1, 2, False))
        self.check(Book(signs, leaves + [('m', 'g', ('k', 'k', 'k'), asks)]), 'm', [], [(2, 0), (2, 1), (2, 2)])
        self.check(Book(signs, leaves + [('m', 'g', ('k', 'k', 'k'), asks), ('k', 'g', ('k', 'k', 'k'), ())]), 'm')

    def test_rules_of_another_kind(self):
        rules = [('leaf', 'a', (), ()), ('leaf', 'b', (), ()), ('up', 'f', ('leaf', 'leaf'), ()), ('top', 'f', ('up', 'up'), ((0, 1, True),))]
        self.check(Book(SIGNS, rules), 'top', [], [])
        self.check(Book(SIGNS, rules + [('up', 'a', (), ())]), 'top', [], [])
        # A tree less beneath is no loss where it can never stand.
        self.check(Book(SIGNS, rules + [('over', 'f', ('up', 'leaf'), ((0, 1, True),))]), 'over', [0, 1, 2, 3, 4], [(3, 0)])
        self.check(Book(SIGNS, rules + [('over', 'f', ('up', 'up'), ((0, 1, True),)), ('up', 'f', ('leaf', 'over'), NEVER)]), 'over')
        # The kind leaf may have more trees, or fewer, as long as those above do not differ.
        book = Book(SIGNS, [('leaf', 'a', (), ()), ('leaf', 'f', ('leaf', 'leaf'), ((0, 1, False),)),
                            ('top', 'f', ('leaf', 'leaf'), ((0, 1, False),)), ('all', 'a', (), ()), ('all', 'f', ('leaf', 'all'), ()),
                            ('all', 'f', ('all', 'all'), ())])
        for kind in book.kinds:
            self.check(book, kind)

    def test_many_rules(self):
        book = Book(SIGNS, ANY_RULES + [('twin', 'f', ('any', 'any'), ((0, 1, True),))] * 997 + [('full', 'a', (), ())] * 1000)
        self.assertEqual(needless_rules(book, 'twin'), list(range(3, 2000)))
        self.assertEqual(needless_rules(book, 'any'), list(range(3, 2000)))
        # With one ask less the kind has other trees.
        self.assertEqual(needless_asks(book, 'twin'), [])
        self.assertEqual(needless_asks(book, 'full'), [(index, 0) for index in range(3, 1000)])
        names = ['ka', 'kb', 'kc', 'kd', 'ke']
        rules = [('ka', 'a', (), ()), ('kb', 'b', (), ())]
        rules += [(names[(one + 2 * other) % 5], 'f', (names[one], names[other]), ()) for one in range(5) for other in range(5)]
        self.check(Book(SIGNS, rules), 'kc')

    def test_what_other_calls_return(self):
        book = example_book()
        for told, kind in [opposite(book, 'twin'), joined(book, 'twin', book, 'full'), opposite(short_book(), 'pair')]:
            self.check(told, kind)
            for index in needless_rules(told, kind):
                self.assertIs(are_alike(without_rule(told, index), kind, told, kind), True)

    def test_random_books(self):
        for book, _ in random_books(141, 90):
            with self.subTest(rules=book.rules):
                for kind in book.kinds + ['none']:
                    self.check(book, kind)

    def test_beside_all_trees_up_to_five_places(self):
        for book, _ in random_books(142, 60):
            trees = [tree for row in plain_trees(book.signs, 5).values() for tree in row]
            wanted = plain_of(book, trees)
            for kind in book.kinds:
                with self.subTest(rules=book.rules, kind=kind):
                    for index in needless_rules(book, kind):
                        self.assertEqual(plain_of(without_rule(book, index), trees).get(kind, []), wanted[kind])
                    for index, ask in needless_asks(book, kind):
                        self.assertEqual(plain_of(without_ask(book, index, ask), trees)[kind], wanted[kind])

    def test_lots_of_both_books_together(self):
        # A rule is needless just if no lot of the book beside the one without it has the kind in one of both alone.
        for book, _ in random_books(143, 40):
            names = {kind: 'z' + kind for kind in book.kinds}
            for kind in book.kinds:
                told = needless_rules(book, kind)
                for index in range(len(book)):
                    other = without_rule(book, index)
                    other = other.renamed({name: names[name] for name in other.kinds})
                    lots = counts(book | other)
                    self.assertIs(index in told, all((kind in lot) == (names[kind] in lot) for lot in lots))

    def test_a_tree_of_the_kind_is_lost(self):
        self.assertEqual(needless_rules(Book(SIGNS, [('k', 'a', (), ())]), 'k'), [])
        self.assertEqual(needless_rules(Book(SIGNS, [('k', 'a', (), ())]), 'l'), [0])
        self.assertIs(are_alike(Book(SIGNS, [('k', 'a', (), ())]), 'k', Book(SIGNS, []), 'k'), False)
        self.assertEqual(A, ('a',))


if __name__ == '__main__':
    unittest.main()
