"""Nets, beside the trees of their nodes."""

import copy
import random
import unittest

from likeboughs.books import Book
from likeboughs.errors import InvalidBook, InvalidNet, InvalidSigns, InvalidTree, TooMany
from likeboughs.nets import is_net, least_net, net_lots, net_of, net_sizes, same_nodes, tree_of
from likeboughs.readings import lot_of
from likeboughs.trees import is_tree, parts, size
from tests.plain import plain_lot, plain_size, plain_trees, random_books
from tests.samples import A, ALL_SIGNS, ANY_RULES, B, SIGNS, asking_book, example_book, grown, odd_objects, short_book, wide_tree

FAB = ('f', A, B)
NO_NETS = [
    [], [('f', 0, 0)], [('a',), ('f', 0, 1)], [('a',), ('f', 1, 1)], [('a',), ('f', 0, 2), ('a',)], [('a',), ('f', 0, -1)],
    [('a',), ('f', 0, True)], [('a',), ('f', False, False)], [('a',), ('f', 0)], [('a',), ('f', 0, 0, 0)], [('a', 0)], [('f',)],
    [('a',), ('b',), ('a', 0)], [('c',)], [('A',)], [('',)], [('a',), ('s', 0)], [['a']], [('a',), ['f', 0, 0]], (('a',),), ('a',),
    [('a',), ('f', 0, None)], [('a',), ('f', '0', '0')], [('a',), ('f', 0, 0.0)], [('a',), ('f', ('a',), ('a',))], [()], [None],
    [('a',), None], [('a',), ()], ['a'], [(['a'],)], [({'a': 0},)], [(None,)], [(0,)], [(True,)], [(('a',),)], {0: ('a',)}, {('a',): 0},
    [('a',), ('f', [0], [0])], [('a',), ('f', 0, 10 ** 39)], [[('a',)]], [('a',)] * 201, 'a', None, True, 0, {}, (),
]


def plain_nodes(net):
    """The trees of the nodes of a net."""
    trees = []
    for sign, *numbers in net:
        trees.append((sign, *[trees[number] for number in numbers]))
    return trees


def plain_finished(tree, seen):
    """The parts of a tree in the order in which they are finished, each one once."""
    for brother in tree[1:]:
        plain_finished(brother, seen)
    if tree not in seen:
        seen.append(tree)
    return seen


def plain_net(tree):
    seen = plain_finished(tree, [])
    return [(part[0], *[seen.index(brother) for brother in part[1:]]) for part in seen]


def random_net(chance, signs, many):
    """A net of at most so many nodes, with equal trees and with nodes that the last one does not need."""
    net = [(sign,) for sign in signs if signs[sign] == 0][:1]
    while len(net) < many:
        sign = chance.choice(sorted(signs))
        first = chance.choice([0, max(0, len(net) - 4)])
        net.append((sign, *[chance.randrange(first, len(net)) for _ in range(signs[sign])]))
    return net


def great_nets():
    """Nets of two hundred nodes whose trees are as deep and have sizes of many figures, with the signs."""
    double = [('a',)] + [('f', at, at) for at in range(199)]
    triple = [('a',)] + [('g', at, at, at) for at in range(199)]
    twice = [('a',), ('a',)] + [('f', at, at + 1) for at in range(198)]
    chain = [('a',)] + [('s', at) for at in range(199)]
    mixed = [('a',)] + [('g', at, at // 3, at) for at in range(199)]
    return [double, triple, twice, chain, mixed]


class IsNetTest(unittest.TestCase):
    def test_nets(self):
        for net in [[('a',)], [('a',), ('b',)], [('a',), ('f', 0, 0)], [('a',), ('a',), ('f', 1, 0), ('b',)], [('b',)] * 200,
                    [('a',)] + [('f', at, 0) for at in range(199)]]:
            self.assertIs(is_net(SIGNS, net), True)
        for net in great_nets():
            self.assertIs(is_net(ALL_SIGNS, net), True)
            self.assertIs(is_net(ALL_SIGNS, net + [('a',)]), False)
            self.assertIs(is_net(SIGNS, net), all(node[0] in 'af' for node in net))
        self.assertIs(is_net(SIGNS, [('a',)] * 201), False)

    def test_objects_that_are_none(self):
        for thing in NO_NETS + [thing for thing in odd_objects() if thing != [A]]:
            with self.subTest(thing=str(thing)[:60]):
                self.assertIs(is_net(SIGNS, thing), False)
                self.assertIs(is_net(SIGNS, [('a',), thing]), thing == A)
                self.assertIs(is_net(SIGNS, [('a',), ('f', 0, thing)]), thing == 0 and thing is not False)
                self.assertIs(is_net(SIGNS, [(thing,)]), thing == 'a')
                self.assertIs(is_net(SIGNS, [('a',), (thing, 0, 0)]), False)

    def test_signs_that_are_none(self):
        for thing in odd_objects():
            for net in [[('a',)], None, []]:
                with self.assertRaises(InvalidSigns):
                    is_net(thing, net)


class NetTest(unittest.TestCase):
    def check(self, book, net):
        """Check all that is told of a net beside the trees of its nodes."""
        signs = book.signs
        given = copy.deepcopy(net)
        trees = plain_nodes(net)
        known = {}
        self.assertIs(is_net(signs, net), True)
        self.assertEqual(net_sizes(signs, net), [plain_size(tree) for tree in trees])
        self.assertEqual(same_nodes(signs, net), [trees.index(tree) for tree in trees])
        self.assertEqual(net_lots(book, net), [plain_lot(book, tree, known) for tree in trees])
        least = least_net(signs, net)
        self.assertEqual(least, plain_net(trees[-1]))
        self.assertEqual(net_of(signs, trees[-1]), least)
        self.assertEqual(least_net(signs, least), least)
        self.assertEqual(len(least), len(parts(signs, trees[-1])))
        if plain_size(trees[-1]) <= 300:
            self.assertEqual([tree_of(signs, net), tree_of(signs, least)], [trees[-1]] * 2)
        self.assertEqual(net, given)

    def test_nets(self):
        book = example_book()
        for net in [[('a',)], [('b',), ('a',)], [('a',), ('a',), ('f', 0, 1), ('f', 2, 2), ('b',)], [('a',), ('a',), ('f', 0, 1), ('f', 2, 2)],
                    [('b',), ('a',), ('f', 1, 0), ('f', 0, 1), ('f', 3, 2), ('f', 2, 3), ('f', 5, 4)], [('a',)] * 200,
                    [('a',), ('b',), ('f', 0, 0), ('f', 1, 1), ('f', 0, 0), ('f', 4, 2), ('a',), ('f', 5, 6)]]:
            self.check(book, net)
            self.check(short_book(), net)

    def test_order_in_which_parts_are_finished(self):
        signs = {**ALL_SIGNS, 'b': 0}
        book = Book(signs, [])
        self.check(book, [('a',), ('b',), ('f', 1, 0), ('s', 2), ('g', 3, 0, 2)])
        self.assertEqual(least_net(signs, [('a',), ('b',), ('s', 0), ('g', 1, 2, 0)]), [('b',), ('a',), ('s', 1), ('g', 0, 2, 1)])
        self.assertEqual(net_of(signs, ('g', ('f', B, A), ('s', A), ('f', A, B))),
                         [('b',), ('a',), ('f', 0, 1), ('s', 1), ('f', 1, 0), ('g', 2, 3, 4)])

    def test_nodes_that_are_not_needed(self):
        net = [('b',), ('a',), ('f', 0, 0), ('f', 1, 1), ('f', 2, 3), ('a',), ('f', 1, 5)]
        self.assertEqual(least_net(SIGNS, net), [('a',), ('f', 0, 0)])
        self.assertEqual(same_nodes(SIGNS, net), [0, 1, 2, 3, 4, 1, 3])
        self.assertEqual(least_net(SIGNS, [('a',)] * 200), [('a',)])

    def test_great_nets(self):
        signs = ALL_SIGNS
        book = asking_book()
        double, triple, twice, chain, mixed = great_nets()
        self.assertEqual(net_sizes(signs, double), [2 ** (at + 1) - 1 for at in range(200)])
        self.assertEqual(net_sizes(signs, triple), [(3 ** (at + 1) - 1) // 2 for at in range(200)])
        self.assertEqual(net_sizes(signs, chain), list(range(1, 201)))
        for net in [double, triple, chain, mixed]:
            self.assertEqual(same_nodes(signs, net), list(range(200)))
        self.assertEqual([least_net(signs, net) for net in [double, triple, chain]], [double, triple, chain])
        self.assertEqual(same_nodes(signs, twice)[:3], [0, 0, 2])
        self.assertEqual(net_lots(book, double)[1:], [('any', 'twin')] * 199)
        self.assertEqual(net_lots(book, triple)[1:], [('any', 'same')] * 199)
        self.assertGreater(net_sizes(signs, mixed)[-1], 10 ** 20)
        for net in [twice, mixed]:
            least = least_net(signs, net)
            self.assertEqual(least_net(signs, least), least)
            self.assertEqual([net_sizes(signs, least)[-1], net_lots(book, least)[-1]], [net_sizes(signs, net)[-1], net_lots(book, net)[-1]])
            self.assertEqual(same_nodes(signs, least), list(range(len(least))))
        for net in [double, triple, twice, chain, mixed]:
            with self.assertRaises(TooMany):
                tree_of(signs, net)
            # A great node beside a small last one.
            self.assertEqual(tree_of(signs, net[:199] + [('a',)]), A)
            self.assertEqual(tree_of(signs, net[:199] + [('f', 0, 0)]), ('f', A, A))
            self.assertEqual(least_net(signs, net[:199] + [('f', 0, 0)]), [('a',), ('f', 0, 0)])

    def test_three_hundred_places_and_forty_levels(self):
        signs = ALL_SIGNS
        # A chain above another one: so many places, so deep.
        for many, deep in [(300, 40), (301, 40), (300, 39), (299, 40), (302, 12), (300, 12)]:
            tree = grown(A, lambda tree: ('s', tree), deep - 2)
            # Brothers beside fill up the places.
            wide = filler(many - plain_size(tree) - 1)
            net = net_of(signs, ('f', tree, wide))
            self.assertEqual(plain_size(('f', tree, wide)), many)
            self.assertLessEqual(len(net), 200)
            if many > 300:
                with self.assertRaises(TooMany):
                    tree_of(signs, net)
            else:
                self.assertEqual(tree_of(signs, net), ('f', tree, wide))
        for deep in [38, 39, 40, 41, 42, 100, 200]:
            net = [('a',)] + [('s', at) for at in range(deep - 1)]
            if deep > 40:
                with self.assertRaises(TooMany):
                    tree_of(signs, net)
            else:
                self.assertEqual(tree_of(signs, net), grown(A, lambda tree: ('s', tree), deep - 1))
        for laps in range(3, 12):
            net = [('a',)] + [('f', at, at) for at in range(laps)]
            if 2 ** (laps + 1) - 1 > 300:
                with self.assertRaises(TooMany):
                    tree_of(signs, net)
            else:
                self.assertEqual(tree_of(signs, net), grown(A, lambda tree: ('f', tree, tree), laps))

    def test_there_and_back(self):
        for tree in [tree for row in plain_trees(SIGNS, 7).values() for tree in row] + [wide_tree(299)]:
            net = net_of(SIGNS, tree)
            self.assertEqual(net, plain_net(tree))
            self.assertEqual([tree_of(SIGNS, net), least_net(SIGNS, net), net_sizes(SIGNS, net)[-1]], [tree, net, size(SIGNS, tree)])
            self.assertEqual(net_lots(example_book(), net)[-1], lot_of(example_book(), tree))
        for deep in [39, 60]:
            tree = grown(A, lambda tree: ('f', tree, B), deep)
            self.assertEqual(net_of(SIGNS, tree), plain_net(tree))
        tree = wide_tree(4999, [FAB, A, B, ('f', B, B)])
        self.assertEqual(net_of(SIGNS, tree), plain_net(tree))
        chance = random.Random(7)
        tree = wide_tree(4999, [chance.choice([A, B]) for _ in range(2500)])
        net = net_of(SIGNS, tree)
        self.assertGreater(len(net), 200)
        self.assertEqual(plain_nodes(net)[-1], tree)

    def test_by_chance(self):
        chance = random.Random(211)
        for book, _ in random_books(211, 60):
            for many in [1, 3, 6, 9]:
                net = random_net(chance, book.signs, many)
                if max(net_sizes(book.signs, net)) < 3000:
                    self.check(book, net)

    def test_errors(self):
        fine = [('a',)]
        for thing in NO_NETS + [thing for thing in odd_objects() if thing != [A]]:
            with self.subTest(thing=str(thing)[:60]):
                for call in [net_sizes, same_nodes, least_net, tree_of]:
                    with self.assertRaises(InvalidNet):
                        call(SIGNS, thing)
                with self.assertRaises(InvalidNet):
                    net_lots(example_book(), thing)
        for thing in odd_objects():
            for call in [net_sizes, same_nodes, least_net, tree_of]:
                for net in [fine, None, [('a',)] + [('f', at, at) for at in range(100)]]:
                    with self.assertRaises(InvalidSigns):
                        call(thing, net)
            if not isinstance(thing, Book):
                for net in [fine, None]:
                    with self.assertRaises(InvalidBook):
                        net_lots(thing, net)
            for tree in [A, None]:
                with self.assertRaises(InvalidSigns):
                    net_of(thing, tree)
            if not is_tree(SIGNS, thing):
                with self.assertRaises(InvalidTree):
                    net_of(SIGNS, thing)

    def test_lists_are_new(self):
        net = [('a',), ('a',), ('f', 0, 1)]
        book = Book(SIGNS, ANY_RULES)
        for call in [lambda: net_sizes(SIGNS, net), lambda: same_nodes(SIGNS, net), lambda: least_net(SIGNS, net), lambda: net_lots(book, net),
                     lambda: net_of(SIGNS, ('f', A, A)), lambda: least_net(SIGNS, [('a',)])]:
            told = call()
            wanted = list(told)
            told.clear()
            self.assertEqual(call(), wanted)
        self.assertEqual(net, [('a',), ('a',), ('f', 0, 1)])


def filler(many):
    """A tree of so many places that is not deep."""
    if many == 1:
        return A
    if many == 2:
        return ('s', A)
    return ('f', filler((many - 1) // 2), filler(many - 1 - (many - 1) // 2))


if __name__ == '__main__':
    unittest.main()
