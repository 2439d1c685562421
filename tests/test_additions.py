"""Asks that are added to rules, and the least lists of them that bar a tree."""

import copy
import random
import unittest
from itertools import combinations, product

from likeboughs.additions import least_additions, with_asks
from likeboughs.books import Book
from likeboughs.errors import InvalidAdditions, InvalidTree, TooMany
from likeboughs.readings import is_of
from tests.plain import asks_are_met, plain_lot, plain_trees, random_book, random_books
from tests.samples import A, ALL_SIGNS, ANY_RULES, B, SIGNS, asking_book, example_book, grown, odd_objects, short_book, wide_tree

FAA, FAB, FBA, FBB = ('f', A, A), ('f', A, B), ('f', B, A), ('f', B, B)
PAIRS = [(0, 1), (0, 2), (1, 2)]


def plain_with_asks(book, additions):
    """The book with more asks, told rule by rule."""
    rules = []
    for index, (kind, sign, kinds, asks) in enumerate(book.rules):
        more = [ask for at, ask in additions if at == index]
        rules.append((kind, sign, kinds, tuple(sorted(list(asks) + more))))
    return Book(book.signs, rules)


def plain_parts_of(tree):
    return {tree}.union(*[plain_parts_of(brother) for brother in tree[1:]])


def barring_additions(book, tree):
    """All additions whose asks do not hold somewhere in a tree where the rule makes it."""
    found = set()
    known = {}
    for part in plain_parts_of(tree):
        lots = [plain_lot(book, brother, known) for brother in part[1:]]
        for index, (_, sign, kinds, asks) in enumerate(book.rules):
            if sign == part[0] and asks_are_met(asks, part[1:]) and all(kind in lot for kind, lot in zip(kinds, lots)):
                for first, second in combinations(range(len(kinds)), 2):
                    if (first, second) not in [ask[:2] for ask in asks]:
                        found.add((index, (first, second, part[1 + first] != part[1 + second])))
    return sorted(found)


def plain_least(book, kind, tree):
    """The least lists by a search through all lists, or None if there are more than eight additions to look at."""
    additions = barring_additions(book, tree)
    if len(additions) > 8:
        return None
    barred = []
    for many in range(len(additions) + 1):
        for row in combinations(additions, many):
            if len({(index, ask[:2]) for index, ask in row}) == many and kind not in plain_lot(plain_with_asks(book, row), tree):
                barred.append(list(row))
    return sorted(row for row in barred if not any(set(other) < set(row) for other in barred))


class WithAsksTest(unittest.TestCase):
    def check(self, book, additions):
        told = with_asks(book, additions)
        self.assertIs(type(told), Book)
        self.assertEqual(told, plain_with_asks(book, additions))
        for rule in told.rules:
            self.assertEqual(list(rule[3]), sorted(set(rule[3])))

    def test_additions(self):
        book = example_book()
        for additions in [[], [(2, (0, 1, False))], [(2, (0, 1, True))]]:
            self.check(book, additions)
        self.assertEqual(with_asks(book, []), book)
        self.assertIsNot(with_asks(book, []), book)
        self.assertEqual(with_asks(book, [(2, (0, 1, False))]).rules[2], ('any', 'f', ('any', 'any'), ((0, 1, False),)))

    def test_several_for_one_rule(self):
        book = asking_book()
        # Rule 3 asks nothing of three brothers, 5 asks of two pairs, 6 of all.
        for row in product([None, True, False], repeat=3):
            additions = [(3, (*pair, same)) for pair, same in zip(PAIRS, row) if same is not None]
            for more in [[], [(5, (0, 1, True))], [(5, (0, 1, False)), (2, (0, 1, True))]]:
                self.check(book, additions + more)
                self.check(book, (additions + more)[::-1])
        self.assertEqual(with_asks(book, [(5, (0, 1, False))]).rules[5][3], ((0, 1, False), (0, 2, True), (1, 2, False)))
        self.assertEqual(with_asks(book, [(3, (1, 2, True)), (3, (0, 1, False))]).rules[3][3], ((0, 1, False), (1, 2, True)))

    def test_one_ask_for_several_rules(self):
        book = Book(SIGNS, ANY_RULES + ANY_RULES)
        self.check(book, [(2, (0, 1, True)), (5, (0, 1, True))])
        self.check(book, [(5, (0, 1, False)), (2, (0, 1, True))])
        self.assertEqual(with_asks(book, [(5, (0, 1, False))]).rules[2], ANY_RULES[2])

    def test_no_additions(self):
        book = asking_book()
        wrong = [
            (7, (0, 1, True)), (7, (0, 1, False)), (4, (0, 1, True)), (4, (0, 1, False)), (4, (1, 2, False)), (6, (0, 2, True)),
            (0, (0, 1, True)), (1, (0, 1, True)), (2, (0, 2, True)), (2, (1, 0, True)), (2, (0, 0, True)), (2, (1, 1, False)),
            (2, (-1, 1, True)), (2, (0, -1, True)), (2, (0, True, True)), (2, (False, 1, True)), (2, (0, 1, 1)), (2, (0, 1, 0)),
            (2, (0, 1, None)), (2, (0, 1)), (2, (0, 1, True, True)), (2, [0, 1, True]), [2, (0, 1, True)], (2, ((0, 1, True),)),
            (2,), (2, (0, 1, True), None), (14, (0, 1, True)), (-1, (0, 1, True)), (-12, (0, 1, True)), (True, (0, 1, True)),
            (False, (0, 1, True)), ('2', (0, 1, True)), (2.0, (0, 1, True)), (None, (0, 1, True)), (2, None), (2, 'a'), 2, None, (), [],
            ((2, (0, 1, True)),), (2, (0, '1', True)), (2, (0, 1, 'True')), (3, (0, 3, True)), (3, (2, 1, True)), (10 ** 39, (0, 1, True)),
        ]
        for thing in wrong + [thing for thing in odd_objects() if thing != ()]:
            with self.subTest(thing=str(thing)[:60]):
                for additions in [[thing], [(2, (0, 1, True)), thing], [thing, (2, (0, 1, True))]]:
                    with self.assertRaises(InvalidAdditions):
                        with_asks(book, additions)
        self.assertEqual(book, asking_book())

    def test_no_lists(self):
        fine = (2, (0, 1, True))
        for thing in odd_objects() + [(fine,), fine, {2: (0, 1, True)}, {fine: True}, (), None, '[]']:
            with self.subTest(thing=str(thing)[:60]):
                with self.assertRaises(InvalidAdditions):
                    with_asks(asking_book(), thing)

    def test_the_same_places_twice(self):
        for one, other in product([True, False], repeat=2):
            for rows in [[(2, (0, 1, one)), (2, (0, 1, other))], [(3, (0, 1, one)), (3, (1, 2, True)), (3, (0, 1, other))]]:
                with self.assertRaises(InvalidAdditions):
                    with_asks(asking_book(), rows)

    def test_many_additions(self):
        book = Book(ALL_SIGNS, [('k', 'g', ('k', 'k', 'k'), ())] * 2000)
        additions = [(index, (*pair, index % 2 == 0)) for index in range(2000) for pair in PAIRS]
        self.check(book, additions)
        with self.assertRaises(InvalidAdditions):
            with_asks(book, additions + additions[:1])
        with self.assertRaises(InvalidAdditions):
            with_asks(book, additions * 16)

    def test_beside_the_long_way(self):
        chance = random.Random(171)
        for book, _ in random_books(171, 60):
            every = [(index, (first, second, same)) for index, rule in enumerate(book.rules)
                     for first, second in combinations(range(len(rule[2])), 2) for same in [True, False]]
            for _ in range(6):
                row = chance.sample(every, min(len(every), chance.randint(0, 4)))
                places = [(index, ask[:2]) for index, ask in row]
                held = [(index, ask[:2]) for index, rule in enumerate(book.rules) for ask in rule[3]]
                if len(set(places)) == len(places) and not set(places) & set(held):
                    given = copy.deepcopy(row)
                    self.check(book, row)
                    self.assertEqual(row, given)
                else:
                    with self.assertRaises(InvalidAdditions):
                        with_asks(book, row)


class LeastAdditionsTest(unittest.TestCase):
    def check(self, book, kind, tree, wanted=None):
        """Check the least lists told beside a search, and beside those that are told here."""
        plain = plain_least(book, kind, tree)
        if plain is None:
            with self.assertRaises(TooMany):
                least_additions(book, kind, tree)
            return
        told = least_additions(book, kind, tree)
        self.assertEqual(told, plain)
        if wanted is not None:
            self.assertEqual(told, wanted)
        for additions in told:
            self.assertEqual(additions, sorted(additions))
            self.assertIs(is_of(with_asks(book, additions), kind, tree), False)
            for at in range(len(additions)):
                self.assertIs(is_of(with_asks(book, additions[:at] + additions[at + 1:]), kind, tree), True)

    def test_kinds_of_the_samples(self):
        book = example_book()
        for tree in [A, B, FAA, FAB, ('f', FAA, FAA), ('f', FAB, FAA), ('f', FAB, ('f', FAB, B))]:
            for kind in book.kinds:
                if kind in plain_lot(book, tree):
                    self.check(book, kind, tree)
        self.check(book, 'any', FAA, [[(2, (0, 1, False))]])
        self.check(book, 'any', ('f', FAA, A), [[(2, (0, 1, False))], [(2, (0, 1, True))]])
        for kind in ['any', 'full']:
            self.check(book, kind, A, [])
        # The asks of the rules of full and of twin are about all places that they have.
        self.check(book, 'full', ('f', FAA, FAA), [])
        self.check(book, 'twin', FAA, [])
        self.check(short_book(), 'pair', FAB, [])
        self.check(book, 'twin', ('f', FAB, FAB), [[(2, (0, 1, True))]])

    def test_several_ways(self):
        leaves = [('k', 'a', (), ()), ('k', 'b', (), ())]
        twice = leaves + [('l', 'f', ('k', 'k'), ())] * 2
        self.check(Book(SIGNS, twice), 'l', FAB, [[(2, (0, 1, True)), (3, (0, 1, True))]])
        # One rule is barred by one ask, the other one by none: two leaves are of both kinds beneath.
        rules = leaves + [('j', 'a', (), ()), ('l', 'f', ('k', 'k'), ()), ('l', 'f', ('j', 'k'), ((0, 1, False),))]
        self.check(Book(SIGNS, rules), 'l', FAB, [])
        self.check(Book(SIGNS, rules), 'l', FBA, [[(3, (0, 1, True))]])
        # One addition bars both ways, as both need the part that it bars.
        rules = leaves + [('l', 'f', ('k', 'k'), ()), ('m', 'f', ('l', 'k'), ()), ('m', 'f', ('l', 'l'), ()), ('l', 'a', (), ())]
        self.check(Book(SIGNS, rules), 'm', ('f', FAB, A), [[(2, (0, 1, True))], [(3, (0, 1, True)), (4, (0, 1, True))]])

    def test_equal_parts(self):
        book = Book(SIGNS, ANY_RULES)
        self.check(book, 'any', ('f', FAB, FAB), [[(2, (0, 1, False))], [(2, (0, 1, True))]])
        self.check(book, 'any', grown(A, lambda tree: ('f', tree, tree), 10), [[(2, (0, 1, False))]])
        self.check(book, 'any', grown(FAB, lambda tree: ('f', tree, tree), 9), [[(2, (0, 1, False))], [(2, (0, 1, True))]])

    def test_both_asks_about_two_places_are_no_list(self):
        # Each of the two ways is barred by one of two asks about the same places: no list of additions has both.
        rules = ANY_RULES + [('l', 'f', ('any', 'k'), ((0, 1, False),)), ('l', 'f', ('j', 'any'), ((0, 1, False),)),
                             ('k', 'f', ('any', 'any'), ()), ('j', 'f', ('any', 'any'), ())]
        self.check(Book(SIGNS, rules), 'l', ('f', FAA, FAB))
        rules = [('k', 'a', (), ()), ('k', 'b', (), ()), ('j', 'f', ('k', 'k'), ()), ('l', 'f', ('j', 'any'), ((0, 1, False),)),
                 ('l', 'f', ('any', 'j'), ((0, 1, False),)), ('any', 'f', ('k', 'k'), ((0, 1, False),)), ('any', 'f', ('k', 'k'), ((0, 1, True),))]
        # j is needed in one way for the first brother, in the other way for the second one.
        self.check(Book(SIGNS, rules), 'l', ('f', FAA, FAB), [])
        self.assertEqual(barring_additions(Book(SIGNS, rules), ('f', FAA, FAB)), [(2, (0, 1, False)), (2, (0, 1, True))])

    def test_eight_and_nine(self):
        leaves = [('k', 'a', (), ()), ('k', 'b', (), ())]
        for many in [7, 8, 9, 10, 30]:
            book = Book(SIGNS, leaves + [('l', 'f', ('k', 'k'), ())] * many)
            wanted = [[(index, (0, 1, True)) for index in range(2, 2 + many)]]
            self.check(book, 'l', FAB, wanted)
            self.check(book, 'k', A, [])
            # The rules of other kinds count, too, as they make the tree.
            other = Book(SIGNS, leaves + [('l', 'f', ('k', 'k'), ())] + [('m', 'f', ('k', 'k'), ())] * (many - 1))
            self.check(other, 'l', FAB, [[(2, (0, 1, True))]])
        signs = {'a': 0, 'b': 0, 'c': 0, 'g': 3}
        leaves = [('k', leaf, (), ()) for leaf in 'abc']
        c = ('c',)
        one = ('g', A, B, c)
        for more in [[], [('k', 'g', ('k', 'k', 'k'), ((0, 1, False),))], [('k', 'g', ('k', 'k', 'k'), ((0, 1, False), (0, 2, False)))]]:
            book = Book(signs, leaves + [('k', 'g', ('k', 'k', 'k'), ())] * 2 + more)
            for tree in [one, ('g', A, A, B), ('g', one, one, A), ('g', one, A, A), ('g', one, ('g', A, B, A), c)]:
                self.check(book, 'k', tree)

    def test_trees_that_are_not_of_the_kind(self):
        book = example_book()
        for kind, tree in [('full', B), ('full', FAB), ('twin', A), ('twin', FAB), ('none', A), ('none', FAA)]:
            with self.assertRaises(InvalidTree):
                least_additions(book, kind, tree)
        # Also where there would be too many.
        book = Book(SIGNS, ANY_RULES + ANY_RULES[2:] * 9 + [('l', 'a', (), ())])
        with self.assertRaises(TooMany):
            least_additions(book, 'any', FAB)
        with self.assertRaises(InvalidTree):
            least_additions(book, 'l', FAB)
        for tree in odd_objects():
            with self.assertRaises(InvalidTree):
                least_additions(book, 'any', tree)

    def test_great_trees(self):
        book = Book(SIGNS, ANY_RULES)
        self.assertEqual(least_additions(book, 'any', wide_tree(4999)), [[(2, (0, 1, False))], [(2, (0, 1, True))]])
        self.assertEqual(least_additions(book, 'any', grown(A, lambda tree: ('f', tree, B), 39)), [[(2, (0, 1, True))]])
        chance = random.Random(5)
        book = Book(SIGNS, ANY_RULES + ANY_RULES[2:] * 3)
        tree = wide_tree(4999, [chance.choice([A, B]) for _ in range(2500)])
        rows = [[(index, (0, 1, same)) for index in [2, 3, 4, 5]] for same in [False, True]]
        self.assertEqual(least_additions(book, 'any', tree)[0], rows[0])
        self.assertIn(rows[1], least_additions(book, 'any', tree))

    def test_lists_are_new(self):
        book = Book(SIGNS, ANY_RULES)
        told = least_additions(book, 'any', ('f', FAB, FAA))
        wanted = copy.deepcopy(told)
        for row in told:
            row.clear()
        told.clear()
        self.assertEqual(least_additions(book, 'any', ('f', FAB, FAA)), wanted)

    def test_beside_a_search(self):
        chance = random.Random(172)
        found = []
        while len(found) < 400:
            signs = chance.choice([SIGNS, {'a': 0, 'b': 0, 's': 1, 'f': 2}, {'a': 0, 'b': 0, 'g': 3}, {'a': 0, 'f': 2, 'g': 3}])
            leaves = [(kind, leaf, (), ()) for kind in 'kl' for leaf in signs if signs[leaf] == 0 and chance.random() < 0.95]
            book = Book(signs, leaves + random_book(chance, signs, ['k', 'l', 'm'], 7).rules)
            trees = [tree for row in plain_trees(signs, 5).values() for tree in row]
            trees += [(sign, *[chance.choice(trees) for _ in range(signs[sign])]) for sign in signs for _ in range(10)]
            trees = [tree for tree in trees if len(tree) > 1]
            pairs = [(kind, tree) for tree in chance.sample(trees, 12) for kind in plain_lot(book, tree)]
            for kind, tree in pairs[:8]:
                with self.subTest(rules=book.rules, kind=kind, tree=tree):
                    self.check(book, kind, tree)
                    found.append(plain_least(book, kind, tree))
        self.assertGreater(len([told for told in found if told]), 30)
        self.assertGreater(len([told for told in found if told and max(map(len, told)) > 1]), 10)


if __name__ == '__main__':
    unittest.main()
