"""What the promises of additions, plain rules, readers, nets, drafts, texts and the shell say together with the others."""

import random
import unittest
from itertools import combinations

from likeboughs.additions import least_additions, with_asks
from likeboughs.beside import are_alike, holds, parting
from likeboughs.books import Book
from likeboughs.counting import count
from likeboughs.draft import Draft
from likeboughs.errors import PlainKind, TooMany
from likeboughs.finite import is_finite
from likeboughs.joined import common, joined, opposite, without
from likeboughs.made import is_made
from likeboughs.needless import without_ask
from likeboughs.nets import least_net, net_lots, net_of, net_sizes, tree_of
from likeboughs.plain import is_parted_row, needs_asks, parted_row, plain
from likeboughs.reader import Reader
from likeboughs.readings import is_of, lot_of
from likeboughs.shell import Shell
from likeboughs.surroundings import are_kin, filled, is_parter, parter
from likeboughs.texts import format_book, format_net, format_rule, format_tree, parse_book, parse_net, parse_rule, parse_tree
from likeboughs.trees import parts, size, trees_of_size
from tests.plain import plain_surroundings, random_books
from tests.samples import asking_book, example_book, short_book


def trees_up_to(signs, most):
    return [tree for places in range(1, most + 1) for tree in trees_of_size(signs, places)]


class KindsTest(unittest.TestCase):
    def test_a_kind_holds_another_one_just_where_nothing_is_left_without_it(self):
        for book, _ in random_books(251, 40):
            for one in book.kinds:
                for other in book.kinds + ['none']:
                    left = without(book, other, book, one)
                    self.assertIs(holds(book, one, book, other), not is_made(*left))
                    self.assertIs(holds(book, one, book, other), are_alike(book, other, *common(book, one, book, other)))
                    self.assertIs(holds(book, one, book, other), are_alike(book, one, *joined(book, one, book, other)))

    def test_asks_that_are_added_make_a_kind_less(self):
        chance = random.Random(252)
        for book, _ in random_books(252, 60):
            every = [(index, (first, second, same)) for index, rule in enumerate(book.rules)
                     for first, second in combinations(range(len(rule[2])), 2) for same in [True, False]
                     if (first, second) not in [ask[:2] for ask in rule[3]]]
            if not every:
                continue
            addition = chance.choice(every)
            more = with_asks(book, [addition])
            ask = more.rules[addition[0]][3].index(addition[1])
            self.assertEqual(without_ask(more, addition[0], ask), book)
            for kind in book.kinds:
                self.assertIs(holds(book, kind, more, kind), True)
                for places in [1, 3, 4, 5]:
                    self.assertLessEqual(count(more, kind, places), count(book, kind, places))
                tree = parting(book, kind, more, kind)
                if tree is not None:
                    self.assertEqual([is_of(book, kind, tree), is_of(more, kind, tree)], [True, False])
                    try:
                        told = least_additions(book, kind, tree)
                    except TooMany:
                        continue
                    self.assertIn([addition], told)

    def test_trees_that_are_kin_are_so_in_any_surrounding(self):
        chance = random.Random(253)
        for book, _ in random_books(253, 40):
            trees = trees_up_to(book.signs, 4)[:9]
            frames = plain_surroundings(book.signs, trees[:3], 2)
            for kind in book.kinds:
                for _ in range(12):
                    one, other, frame = chance.choice(trees), chance.choice(trees), chance.choice(frames)
                    upper = [filled(book.signs, frame, tree) for tree in [one, other]]
                    if are_kin(book, kind, one, other):
                        self.assertIs(are_kin(book, kind, *upper), True)
                        self.assertIs(is_parter(book, kind, one, other, frame), False)
                    elif one != other:
                        self.assertIs(is_parted_row(book, kind, [one, other]), True)
                        self.assertIs(is_parter(book, kind, one, other, parter(book, kind, one, other)[0]), True)

    def test_rows_of_parted_trees_stand_where_asks_are_needed(self):
        chance = random.Random(254)
        for book, _ in random_books(254, 90):
            trees = trees_up_to(book.signs, 5)
            for kind in book.kinds + ['none']:
                if needs_asks(book, kind):
                    self.assertIs(is_finite(book, kind), False)
                    self.assertIs(plain(book, kind), None)
                    row = parted_row(book, kind, 6)
                    self.assertIs(is_parted_row(book, kind, row), True)
                    self.assertIs(is_parted_row(book, kind, row[2:]), True)
                    self.assertIs(needs_asks(*opposite(book, kind)), True)
                    continue
                with self.assertRaises(PlainKind):
                    parted_row(book, kind, chance.randint(1, 6))
                try:
                    other, name = plain(book, kind)
                except TooMany:
                    continue
                self.assertIs(needs_asks(other, name), False)
                self.assertEqual(plain(other, name)[0].rules, [rule for rule in plain(other, name)[0].rules if rule[3] == ()])
                self.assertEqual([is_of(other, name, tree) for tree in trees], [is_of(book, kind, tree) for tree in trees])
                if len(other.kinds) <= 4:
                    self.assertIs(are_alike(book, kind, other, name), True)
                    self.assertIs(needs_asks(*joined(book, kind, other, name)), False)

    def test_opposites_need_asks_where_the_kinds_do(self):
        for book in [example_book(), short_book()]:
            for kind in book.kinds + ['none']:
                self.assertIs(needs_asks(*opposite(book, kind)), needs_asks(book, kind))
                self.assertIs(needs_asks(*joined(book, kind, *opposite(book, kind))), False)


class TreesTest(unittest.TestCase):
    def read(self, book, net):
        """What a reader tells that follows a net node by node, each node put from copies of those beneath."""
        reader = Reader(book)
        where = []
        lots = []
        for sign, *numbers in net:
            for number in numbers:
                reader.again(where[number])
            lots.append(reader.put(sign))
            where.append(len(reader) - 1)
        self.assertEqual(reader.lots, lots)
        return lots, reader.sizes, reader.same

    def test_one_tree_told_in_all_ways(self):
        for book in [example_book(), short_book(), asking_book()] + [book for book, _ in random_books(255, 30)]:
            signs = book.signs
            shell = Shell()
            text = format_book(book).replace(' ', '_').replace('\n', '/')
            self.assertEqual([shell.run('book it ' + text), parse_book(format_book(book))], ['ok', book])
            draft = Draft(signs)
            for rule in book.rules:
                self.assertEqual(parse_rule(signs, format_rule(signs, rule)), rule)
                draft.add(rule)
            trees = trees_up_to(signs, 5)
            for tree in trees[:5] + trees[-12:]:
                lot = lot_of(book, tree)
                net = net_of(signs, tree)
                self.assertEqual(self.read(book, net), (net_lots(book, net), net_sizes(signs, net), list(range(len(net)))))
                self.assertEqual([net_lots(book, net)[-1], net_sizes(signs, net)[-1], tree_of(signs, net)], [lot, size(signs, tree), tree])
                self.assertEqual([least_net(signs, net), least_net(signs, net + net[:1])], [net, net[:1]])
                self.assertEqual(len(net), len(parts(signs, tree)))
                self.assertEqual([parse_tree(signs, format_tree(signs, tree)), parse_net(signs, format_net(signs, net))], [tree, net])
                self.assertEqual(shell.run('lot it ' + format_tree(signs, tree)), '+'.join(lot) or '-')
                for kind in book.kinds + ['none']:
                    draft.want(kind, tree, kind in lot)
                    draft.want(kind, tree, kind not in lot)
            self.assertEqual(draft.failing(), list(range(1, len(draft.wishes), 2)))
            self.assertEqual(draft.book, book)

    def test_a_draft_shows_what_is_told_of_its_book(self):
        chance = random.Random(256)
        for book, _ in random_books(256, 25):
            draft = Draft(book.signs)
            trees = trees_up_to(book.signs, 4)
            shown = [(draft.book, draft.wishes, draft.failing())]
            for rule in book.rules:
                self.assertIs(draft.add(rule), None)
                shown.append((draft.book, draft.wishes, draft.failing()))
                draft.want(rule[0], chance.choice(trees), chance.choice([True, False]))
                failing = [at for at, (kind, tree, is_so) in enumerate(draft.wishes) if is_of(draft.book, kind, tree) is not is_so]
                self.assertEqual(draft.failing(), failing)
                shown.append((draft.book, draft.wishes, draft.failing()))
            for wanted in reversed(shown):
                self.assertEqual((draft.book, draft.wishes, draft.failing()), wanted)
                if len(draft) > 0:
                    draft.undo()

    def test_a_reader_shows_behind_each_step_back_what_was_shown_there(self):
        chance = random.Random(257)
        for book in [example_book(), asking_book()]:
            reader = Reader(book)
            shown = []
            for _ in range(200):
                shown.append((reader.lots, reader.sizes, reader.same, len(reader)))
                signs = [sign for sign, many in book.signs.items() if many <= len(reader)]
                if len(reader) > 0 and chance.random() < 0.4:
                    reader.again(chance.randrange(len(reader)))
                else:
                    reader.put(chance.choice(signs))
            for wanted in reversed(shown):
                reader.undo()
                self.assertEqual((reader.lots, reader.sizes, reader.same, len(reader)), wanted)


class GreatTest(unittest.TestCase):
    def test_sixty_figures(self):
        book = Book(example_book().signs, example_book().rules)
        net = [('a',)] + [('f', at, at) for at in range(199)]
        self.assertEqual(net_lots(book, net)[1:], [('any', 'full', 'twin')] * 199)
        self.assertEqual(len(str(net_sizes(book.signs, net)[-1])), 61)
        text = format_net(book.signs, net)
        self.assertEqual([parse_net(book.signs, text), least_net(book.signs, parse_net(book.signs, text))], [net, net])
        reader = Reader(book)
        reader.put('a')
        for _ in range(199):
            reader.again(0)
            reader.put('f')
        self.assertEqual([reader.sizes, reader.lots], [net_sizes(book.signs, net)[-1:], net_lots(book, net)[-1:]])


if __name__ == '__main__':
    unittest.main()
