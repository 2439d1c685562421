"""The kinds that a tree is of, and the rules by which it is."""

from likeboughs.books import check_book, check_kind
from likeboughs.groves import nodes_of
from likeboughs.makers import lots_of_nodes, maker_of
from likeboughs.shapes import asks_hold, pattern_in
from likeboughs.trees import check_tree
from likeboughs.words import is_between


def lot_of(book, tree):
    """The ascending tuple of the kinds that a tree is of."""
    check_book(book)
    check_tree(book.signs, tree)
    maker = maker_of(book)
    return maker.lot(lots_of_nodes(maker, nodes_of(tree))[-1])


def is_of(book, kind, tree):
    """Whether a tree is of a kind."""
    check_book(book)
    check_kind(kind)
    return kind in lot_of(book, tree)


class Chooser:
    """The choice of a rule for each kind of a tree, made once for each step."""

    def __init__(self, book):
        self.maker = maker_of(book)
        self._kinds_made = [rule[0] for rule in book.rules]
        self._chosen = {}

    def rule(self, sign, row, pattern, kind):
        """The index of the first rule that gives a kind to a tree with a sign, a row of lots beneath, and a pattern."""
        key = (sign, row, pattern)
        if key not in self._chosen:
            makers = self.maker.makers(sign, row, pattern)
            self._chosen[key] = {self._kinds_made[index]: index for index in reversed(makers)}
        return self._chosen[key][kind]


def chosen_rules(book, nodes, wanted):
    """A rule for the last node as a kind, and for each node and kind that the rules chosen need.

    They are told by a dict from (number of a node, kind) to the index of a rule.
    """
    chooser, rules = Chooser(book), book.rules
    lots = lots_of_nodes(chooser.maker, nodes)
    waiting = [(len(nodes) - 1, wanted)]
    chosen = {}
    while waiting:
        number, kind = waiting.pop()
        if (number, kind) not in chosen:
            sign, *brothers = nodes[number]
            row = tuple([lots[brother] for brother in brothers])
            index = chooser.rule(sign, row, pattern_in(brothers), kind)
            chosen[(number, kind)] = index
            waiting.extend(list(zip(brothers, rules[index][2])))
    return chosen


def reading(book, kind, tree):
    """A reading of a tree as a kind, or None if the tree is not of the kind."""
    if not is_of(book, kind, tree):
        return None
    nodes, rules = nodes_of(tree), book.rules
    chosen = chosen_rules(book, nodes, kind)
    told = {}
    # Brothers have smaller numbers, so their readings are there when they are needed.
    for number, name in sorted(chosen):
        index = chosen[(number, name)]
        beneath = [told[pair] for pair in list(zip(nodes[number][1:], rules[index][2]))]
        told[(number, name)] = (index, *beneath)
    return told[(len(nodes) - 1, kind)]


def is_made_by(rule, kind, tree):
    """Whether a rule has a kind and the sign of a tree, and its asks hold of the tree's brothers."""
    return rule[0] == kind and rule[1] == tree[0] and asks_hold(rule[3], pattern_in(tree[1:]))


def is_reading(book, kind, tree, thing):
    """Whether an object is a reading of a tree as a kind."""
    check_book(book)
    check_kind(kind)
    check_tree(book.signs, tree)
    rules = book.rules
    waiting = [(kind, tree, thing)]
    while waiting:
        name, part, told = waiting.pop()
        if not isinstance(told, tuple) or len(told) != len(part):
            return False
        if not is_between(told[0], 0, len(rules) - 1) or not is_made_by(rules[told[0]], name, part):
            return False
        waiting.extend(list(zip(rules[told[0]][2], part[1:], told[1:])))
    return True
