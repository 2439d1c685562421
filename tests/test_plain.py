"""Rules without asks: whether they are enough, and what they make, tree by tree."""

import random
import unittest
from itertools import combinations, product

from likeboughs.books import Book
from likeboughs.errors import PlainKind, TooMany
from likeboughs.plain import needs_asks, parted_row, plain
from likeboughs.readings import is_of
from likeboughs.surroundings import are_kin
from likeboughs.tables import counts, table
from tests.plain import plain_held, plain_lot, plain_of, plain_trees, random_books
from tests.samples import A, ANY_RULES, B, SIGNS, asking_book, example_book, grown, short_book, wide_tree

LEAVES = 'abcde'
PAIRS = [(0, 1), (0, 2), (1, 2)]


def leaf_rules(kind, leaves):
    return [(kind, leaf, (), ()) for leaf in leaves]


def long_needs_asks(book, kind, endless):
    """Whether two trees of a lot with no end of trees are parted, by what are_kin tells of two of them."""
    return any(endless[lot] and not are_kin(book, kind, *trees[:2]) for lot, trees in table(book) if len(trees) > 1)


def endless_lots(book, held):
    """Whether there is no end of trees of each lot, from four trees of each lot: whether a ring leads to it."""
    lots = list(held)
    beneath = {lot: set() for lot in lots}
    known = {}
    for sign, brothers in book.signs.items():
        for row in product([tree for trees in held.values() for tree in trees], repeat=brothers):
            beneath[plain_lot(book, (sign, *row), known)].update(plain_lot(book, brother, known) for brother in row)
    for _ in lots:
        beneath = {lot: beneath[lot].union(*[beneath[lower] for lower in beneath[lot]]) for lot in lots}
    ringed = {lot for lot in lots if lot in beneath[lot]}
    return {lot: lot in ringed or bool(beneath[lot] & ringed) for lot in lots}


class PlainTest(unittest.TestCase):
    def check_book(self, signs, told):
        """Check that a book without asks and a kind are told, and give them back."""
        self.assertEqual([type(told), len(told), type(told[0]), type(told[1])], [tuple, 2, Book, str])
        book, kind = told
        self.assertEqual(book.signs, signs)
        self.assertLessEqual(len(book), 2000)
        self.assertEqual({rule[3] for rule in book.rules} - {()}, set())
        self.assertEqual(Book(book.signs, book.rules), book)
        self.assertRegex(kind, '^[a-z]{1,8}$')
        self.assertIs(needs_asks(book, kind), False)
        return told

    def check(self, book, kind, trees, needs=False):
        """Check whether asks are needed, and if not, that rules without asks make just those of some trees of the kind."""
        self.assertIs(needs_asks(book, kind), needs)
        told = plain(book, kind)
        if needs:
            self.assertIs(told, None)
            return
        other, name = self.check_book(book.signs, told)
        self.assertEqual(plain_of(other, trees).get(name, []), plain_of(book, trees).get(kind, []))
        with self.assertRaises(PlainKind):
            parted_row(book, kind, 1)

    def test_kinds_of_the_samples(self):
        trees = [tree for row in plain_trees(SIGNS, 9).values() for tree in row]
        book = example_book()
        for kind, needs in [('any', False), ('twin', True), ('full', True), ('none', False)]:
            self.check(book, kind, trees, needs)
        for kind in ['leaf', 'pair', 'none']:
            self.check(short_book(), kind, trees)
        asking = asking_book()
        for kind, needs in [('any', False), ('same', True), ('some', True), ('apart', True), ('twin', True), ('odd', True),
                            ('never', False), ('over', True), ('beneath', True), ('lost', False), ('deep', False)]:
            self.assertIs(needs_asks(asking, kind), needs)

    def test_kinds_that_no_tree_is_of(self):
        trees = [tree for row in plain_trees(SIGNS, 5).values() for tree in row]
        never = ((0, 1, False), (0, 1, True))
        for book in [Book(SIGNS, []), Book(SIGNS, [('k', 'f', ('k', 'k'), ((0, 1, True),))]),
                     Book(SIGNS, ANY_RULES + [('k', 'f', ('any', 'any'), never)]),
                     Book(SIGNS, [('l', 'a', (), ()), ('k', 'f', ('l', 'l'), ((0, 1, False),))])]:
            for kind in ['k', 'none']:
                self.check(book, kind, trees)
        for signs in [{'f': 2}, {'s': 1}, {'g': 3, 'a': 0}]:
            for sign in signs:
                asks = {2: ((0, 1, True),), 3: ((0, 2, False),)}.get(signs[sign], ())
                self.check(Book(signs, [('k', sign, ('k',) * signs[sign], asks)]), 'k', [A] if 'a' in signs else [])

    def test_asks_that_never_fail_or_that_all_together_say_nothing(self):
        trees = [tree for row in plain_trees(SIGNS, 7).values() for tree in row]
        rules = ANY_RULES + [('k', 'f', ('any', 'any'), ((0, 1, False),)), ('k', 'f', ('any', 'any'), ((0, 1, True),))]
        self.check(Book(SIGNS, rules), 'k', trees)
        self.check(Book(SIGNS, rules[:4]), 'k', trees, True)
        # A leaf is never the same as a greater tree.
        rules = ANY_RULES + leaf_rules('leaf', 'ab') + [('high', 'f', ('any', 'any'), ()), ('k', 'f', ('leaf', 'high'), ((0, 1, False),)),
                                                        ('l', 'f', ('high', 'leaf'), ((0, 1, True),)), ('l', 'f', ('k', 'any'), ())]
        for kind in ['k', 'l']:
            self.check(Book(SIGNS, rules), kind, trees)
        # An ask that fails makes no difference where the tree is of the kind by another rule.
        rules = ANY_RULES + [('k', 'f', ('any', 'any'), ((0, 1, False),)), ('k', 'f', ('any', 'any'), ())]
        self.check(Book(SIGNS, rules), 'k', trees)
        # Asks beneath that the kind does not hang on.
        self.check(Book(SIGNS, rules + [('twin', 'f', ('any', 'any'), ((0, 1, True),)), ('over', 'f', ('twin', 'twin'), ())]), 'k', trees)

    def test_finitely_many_trees_that_are_told_apart(self):
        trees = [tree for row in plain_trees(SIGNS, 7).values() for tree in row]
        for same in [True, False]:
            asks = ((0, 1, same),)
            rules = leaf_rules('k', 'ab') + [('l', 'f', ('k', 'k'), ()), ('m', 'f', ('l', 'l'), asks), ('n', 'f', ('k', 'k'), asks),
                                             ('o', 'f', ('n', 'l'), asks)]
            for kind in 'klmno':
                self.check(Book(SIGNS, rules), kind, trees)
            # What stands above them has no end.
            more = rules + [('p', 'f', ('any', 'm'), ()), ('p', 'f', ('n', 'any'), ()), ('q', 'f', ('k', 'any'), asks)]
            for kind in 'pq':
                self.check(Book(SIGNS, more + ANY_RULES), kind, trees)

    def test_asks_that_part_trees_of_which_there_is_no_end(self):
        self.check(example_book(), 'twin', [], True)
        rules = [('k', 'a', (), ()), ('k', 's', ('k',), ()), ('l', 'f', ('k', 'k'), ((0, 1, True),))]
        for more, needs in [([], True), ([('l', 'f', ('k', 'k'), ((0, 1, False),))], False), ([('l', 'f', ('k', 'm'), ())], True)]:
            book = Book({'a': 0, 's': 1, 'f': 2}, rules + more)
            self.check(book, 'l', [tree for row in plain_trees(book.signs, 7).values() for tree in row], needs)
        # A ring that goes through several kinds, and one beneath that is parted only high above.
        signs = {'a': 0, 's': 1, 't': 1, 'f': 2}
        rules = [('k', 'a', (), ()), ('k', 's', ('m',), ()), ('l', 't', ('k',), ()), ('m', 's', ('l',), ())]
        top = [('n', 'f', ('k', 'l'), ()), ('o', 's', ('n',), ()), ('p', 'f', ('o', 'o'), ((0, 1, False),)), ('q', 't', ('p',), ())]
        for kind, needs in [('n', False), ('o', False), ('p', True), ('q', True)]:
            self.check(Book(signs, rules + top), kind, [tree for row in plain_trees(signs, 6).values() for tree in row], needs)

    def test_three_brothers(self):
        signs = {'a': 0, 'b': 0, 'c': 0, 'g': 3}
        leaves = [(leaf,) for leaf in 'abc']
        lower = [('g', *row) for row in product(leaves, repeat=3)]
        chance = random.Random(3)
        trees = leaves + lower + [('g', *chance.choices(leaves + lower, k=3)) for _ in range(300)]
        trees += [('g', *[pair[at] for at in row]) for row in product([0, 1], repeat=3) for pair in [chance.sample(lower, 2) for _ in range(20)]]
        trees = list(dict.fromkeys(trees))
        for row in product([None, True, False], repeat=3):
            asks = tuple((*pair, same) for pair, same in zip(PAIRS, row) if same is not None)
            for many in [1, 2, 3]:
                rules = leaf_rules('k', 'abc'[:many]) + [('l', 'g', ('k', 'k', 'k'), asks)]
                self.check(Book(signs, rules), 'l', trees)
                if many == 2:
                    self.check(Book(signs, rules + [('m', 'g', ('l', 'l', 'l'), asks), ('m', 'g', ('l', 'k', 'l'), asks)]), 'm', trees)
            rules = leaf_rules('k', 'abc') + [('k', 'g', ('k', 'k', 'k'), ()), ('l', 'g', ('k', 'k', 'k'), asks)]
            self.check(Book(signs, rules), 'l', trees, needs=asks != () and not is_nothing(asks))

    def test_names_of_eight_letters(self):
        trees = [tree for row in plain_trees(SIGNS, 7).values() for tree in row]
        book = Book(SIGNS, leaf_rules('abcdefgh', 'ab') + [
            ('zzzzzzzz', 'f', ('abcdefgh', 'abcdefgh'), ((0, 1, False),)), ('zzzzzzzy', 'f', ('zzzzzzzz', 'abcdefgh'), ()),
            ('a', 'f', ('zzzzzzzy', 'zzzzzzzz'), ()), ('b', 'f', ('zzzzzzzz', 'zzzzzzzz'), ((0, 1, True),)),
        ])
        for kind in book.kinds:
            self.check(book, kind, trees)
        book = example_book().renamed({'any': 'abcdefgh', 'twin': 'abcdefgi', 'full': 'a'})
        self.check(book, 'abcdefgh', trees)
        self.check(book, 'abcdefgi', trees, True)
        signs = {'abcdefgh': 0, 'zzzzzzzz': 0, 'fffffffg': 2}
        rules = leaf_rules('k', ['abcdefgh', 'zzzzzzzz']) + [('l', 'fffffffg', ('k', 'k'), ((0, 1, False),))]
        self.check(Book(signs, rules), 'l', [tree for row in plain_trees(signs, 5).values() for tree in row])

    def test_greater_trees_with_equal_parts(self):
        book = Book(SIGNS, ANY_RULES + leaf_rules('leaf', 'ab') + [
            ('pair', 'f', ('leaf', 'leaf'), ((0, 1, False),)), ('over', 'f', ('any', 'pair'), ()), ('over', 'f', ('over', 'any'), ()),
        ])
        told = self.check_book(SIGNS, plain(book, 'over'))
        parts = [A, B, ('f', A, A), ('f', A, B), ('f', B, A), wide_tree(99), grown(('f', A, B), lambda tree: ('f', tree, tree), 6)]
        trees = [('f', one, other) for one, other in product(parts, parts)]
        trees += [('f', one, other) for one, other in product(trees[::5], trees[::3])] + [wide_tree(4999)]
        trees += [grown(tree, lambda tree: ('f', tree, B), 36) for tree in trees[:6]]
        self.assertEqual(len({is_of(book, 'over', tree) for tree in trees}), 2)
        for tree in trees:
            self.assertIs(is_of(*told, tree), is_of(book, 'over', tree))

    def test_beside_are_kin_and_tree_by_tree(self):
        needed = 0
        for book, held in random_books(181, 120):
            trees = [tree for row in plain_trees(book.signs, 5).values() for tree in row]
            trees += [(sign, *row) for sign, many in book.signs.items() for row in product([tree for row in held.values() for tree in row[:2]],
                                                                                           repeat=many)]
            trees = list(dict.fromkeys(trees))
            endless = endless_lots(book, held)
            for kind in book.kinds + ['none']:
                with self.subTest(rules=book.rules, kind=kind):
                    needs = long_needs_asks(book, kind, endless)
                    needed += needs
                    self.check(book, kind, trees, needs)
        self.assertGreater(needed, 10)

    def test_books_with_few_leaves_and_many_asks(self):
        chance = random.Random(182)
        tried = 0
        while tried < 120:
            signs = chance.choice([SIGNS, {'a': 0, 'b': 0, 'c': 0, 'f': 2}, {'a': 0, 'b': 0, 'c': 0, 'g': 3}, {'a': 0, 'b': 0, 's': 1, 'f': 2}])
            high = [sign for sign in signs if signs[sign] > 0]
            rules = leaf_rules('k', [leaf for leaf in signs if signs[leaf] == 0])
            rules += [('k', sign, ('k',) * signs[sign], ()) for sign in high if chance.random() < 0.25]
            for name in chance.choices('lmn', k=chance.randint(1, 4)):
                sign = chance.choice(high)
                asks = tuple((*pair, chance.random() < 0.4) for pair in combinations(range(signs[sign]), 2) if chance.random() < 0.5)
                rules.append((name, sign, tuple(chance.choice('klmk') for _ in range(signs[sign])), asks))
            book = Book(signs, rules)
            if len(counts(book)) > (5 if 3 in signs.values() else 8):
                continue
            tried += 1
            trees = [tree for row in plain_trees(signs, 4 if 3 in signs.values() else 5).values() for tree in row]
            pool = trees[:15]
            for _ in range(60):
                sign, some = chance.choice(high), chance.sample(pool, 2)
                pool.append((sign, *chance.choices(some, k=signs[sign])))
            trees = list(dict.fromkeys(trees + pool))
            endless = endless_lots(book, plain_held(book))
            for kind in ['k', 'l', 'm', 'n']:
                with self.subTest(rules=rules, kind=kind):
                    self.check(book, kind, trees, long_needs_asks(book, kind, endless))


def is_nothing(asks):
    """Whether asks bar each other, so that no brothers meet them."""
    met = [row for row in product(range(3), repeat=3) if all((row[first] == row[second]) is same for first, second, same in asks)]
    return met == []


class ManyTreesTest(unittest.TestCase):
    def check(self, book, kind, number, trees):
        """Check what is told where lots with finitely many trees of which two are parted have so many trees together."""
        self.assertIs(needs_asks(book, kind), False)
        if number > 40:
            with self.assertRaises(TooMany):
                plain(book, kind)
            return
        other, name = plain(book, kind)
        self.assertLessEqual(len(other), 2000)
        self.assertEqual({rule[3] for rule in other.rules}, {()})
        for tree in trees:
            self.assertIs(is_of(other, name, tree), is_of(book, kind, tree))

    def book(self, more, asks, sign='z', signs=()):
        """A book of five leaves and 25 trees of two of them, with more of the same kind, of which some are asked for."""
        signs = {**{leaf: 0 for leaf in LEAVES}, 'x': 2, sign: 3 if sign == 'g' else 2, **dict(signs)}
        high = ('m', sign, ('l',) * signs[sign], asks)
        return Book(signs, leaf_rules('k', LEAVES) + [('l', 'x', ('k', 'k'), ()), high] + more)

    def pairs(self, trees, sign='z'):
        return [(sign, one, other) for one, other in product(trees, repeat=2)]

    def test_forty_and_forty_one(self):
        leaves = [(leaf,) for leaf in LEAVES]
        low = [('x', *row) for row in product(leaves, repeat=2)]
        asks = ((0, 1, False),)
        # 5 leaves and 25 trees of two.
        self.check(self.book([], asks), 'm', 30, self.pairs(low))
        # Ten more trees of l: those of a leaf out of a and b, and a leaf.
        more = leaf_rules('j', 'ab') + [('l', 'z', ('j', 'k'), ())]
        ten = [('z', one, other) for one, other in product(leaves[:2], leaves)]
        for same in [True, False]:
            self.check(self.book(more, ((0, 1, same),)), 'm', 40, self.pairs(low + ten))
        # One more tree of l makes 41.
        for extra in [('l', 's', ('i',), ()), ('l', 'z', ('i', 'i'), ())]:
            for leaf, number in [('b', 41), ('e', 41)]:
                book = self.book(more + [('i', 'd', (), ()), extra], asks, signs=[('s', 1)])
                # d is the only tree of its lot then, and so is not parted from others of it.
                self.check(book, 'm', number - 1, self.pairs(low + ten))
                book = self.book(more + [('l', 's', ('h',), ()), ('l', 's', ('k',), ())], asks, signs=[('s', 1)])
                self.check(book, 'm', 45, [])
        book = self.book(more + [('l', 's', ('n',), ()), ('n', 'x', ('i', 'i'), ()), ('i', 'd', (), ())], asks, signs=[('s', 1)])
        # One more leaf alone in its lot, one tree alone in its lot, one more tree of l.
        self.check(book, 'm', 5 - 1 + 25 - 1 + 10 + 1, self.pairs(low[::3] + ten))

    def test_the_numbers_of_lots(self):
        # The number of trees to be told apart, worked out by listing all trees of the kinds beneath.
        for many in range(2, 6):
            for extra in range(0, 6):
                leaves = LEAVES[:many]
                more = leaf_rules('j', 'abcde'[:extra]) + [('l', 'z', ('j', 'k'), ())]
                signs = {**{leaf: 0 for leaf in LEAVES}, 'x': 2, 'z': 2, 's': 1}
                rules = leaf_rules('k', leaves) + [('l', 'x', ('k', 'k'), ()), ('l', 's', ('k',), ()), ('m', 'z', ('l', 'l'), ((0, 1, False),))]
                book = Book(signs, rules + more)
                trees = [(leaf,) for leaf in LEAVES]
                trees += [(sign, *row) for sign in 'xz' for row in product(trees[:5], repeat=2)] + [('s', tree) for tree in trees]
                lots = {}
                for tree in trees:
                    lot = plain_lot(book, tree)
                    # Those of j alone that stand beneath no other tree than these ones are parted, too.
                    if lot != () and lot != ('m',):
                        lots.setdefault(lot, []).append(tree)
                number = sum(len(found) for found in lots.values() if len(found) > 1)
                low = [tree for lot, found in lots.items() for tree in found if 'l' in lot]
                self.check(book, 'm', number, self.pairs(low[:45]) if number <= 40 else [])

    def test_lots_told_apart_by_other_kinds_count_as_lots_of_the_book(self):
        leaves = [(leaf,) for leaf in LEAVES]
        low = [('x', *row) for row in product(leaves, repeat=2)]
        more = leaf_rules('j', 'ab') + [('l', 'z', ('j', 'k'), ()), ('l', 's', ('n',), ()), ('n', 'x', ('j', 'j'), ())]
        # 5 leaves, 21 and 4 trees of x, 10 of z, 4 of s: 44.
        book = self.book(more, ((0, 1, False),), signs=[('s', 1)])
        self.check(book, 'm', 44, [])
        # Three of them alone in their lots, by kinds that m does not hang on, and one more.
        alone = [('o', 'c', (), ()), ('p', 'd', (), ())]
        self.check(Book(book.signs, book.rules + alone[:1]), 'm', 43, [])
        less = [rule for rule in more if rule[1] != 's'] + [('l', 's', ('i',), ()), ('i', 'a', (), ())]
        book = self.book(less, ((0, 1, False),), signs=[('s', 1)])
        ten = [('z', one, other) for one, other in product(leaves[:2], leaves)]
        # a and b are alone in their lots.
        self.check(book, 'm', 3 + 25 + 10 + 1, self.pairs(low[::2] + ten + [('s', leaves[0])]))
        book = Book(book.signs, [('k', 'e', (), ()) if rule == ('i', 'a', (), ()) else rule for rule in book.rules] + [('l', 's', ('j',), ())])
        # Without i: 3 and 2 leaves, 25, 10, and 2 trees of s.
        self.check(book, 'm', 42, [])
        for rules, number in [([('o', 'a', (), ())], 40), ([('o', 'c', (), ())], 41), ([('o', 'c', (), ()), ('p', 'd', (), ())], 39)]:
            other = Book(book.signs, book.rules + rules)
            self.assertLessEqual(len(counts(other)), 8)
            self.check(other, 'm', number, self.pairs((low + ten)[::2] + [('s', leaves[0]), ('s', leaves[1])]))

    def test_three_brothers_of_many_trees(self):
        leaves = [(leaf,) for leaf in LEAVES]
        low = [('x', *row) for row in product(leaves, repeat=2)]
        chance = random.Random(9)
        trees = [('g', *chance.choices(low, k=3)) for _ in range(300)] + [('g', *chance.choices(pair, k=3)) for pair in combinations(low[:12], 2)]
        for row in product([None, True, False], repeat=3):
            asks = tuple((*pair, same) for pair, same in zip(PAIRS, row) if same is not None)
            if not is_nothing(asks):
                self.check(self.book([], asks, 'g'), 'm', 30, trees + low + [('g', *leaves[:3])])

    def test_no_such_book_or_too_many(self):
        # Where there is no book without asks either answer is right.
        book = self.book([('l', 'z', ('k', 'l'), ()), ('l', 'z', ('k', 'k'), ())], ((0, 1, False),))
        self.assertIs(needs_asks(book, 'm'), True)
        try:
            self.assertIs(plain(book, 'm'), None)
        except TooMany:
            pass

    def test_kinds_that_are_not_parted_do_not_count(self):
        # Many trees beneath, none of which is to be told from another one.
        signs = {**{leaf: 0 for leaf in LEAVES}, 'x': 2, 'z': 2}
        rules = leaf_rules('k', LEAVES) + [('l', 'x', ('k', 'k'), ()), ('m', 'z', ('l', 'l'), ()), ('n', 'z', ('m', 'm'), ()),
                                           ('o', 'x', ('n', 'p'), ((0, 1, False),)), ('p', 'a', (), ())]
        book = Book(signs, rules)
        self.check(book, 'n', 0, [])
        self.check(book, 'o', 0, [('x', ('z', ('z', ('x', A, A), ('x', A, A)), ('z', ('x', A, A), ('x', A, A))), A)])


if __name__ == '__main__':
    unittest.main()
