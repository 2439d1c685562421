"""Texts of trees, rules, nets and books: how they are written and read."""

from likeboughs.books import MOST_RULES, Book, check_book, is_rule_of
from likeboughs.errors import InvalidRule, ParseError
from likeboughs.nets import check_net
from likeboughs.parsing import net_in, rule_in, signs_in, tree_in
from likeboughs.trees import check_signs, check_tree
from likeboughs.writing import net_text, rule_text, signs_text, tree_text


def format_tree(signs, tree):
    """The text of a tree."""
    check_signs(signs)
    check_tree(signs, tree)
    return tree_text(tree)


def format_rule(signs, rule):
    """The text of a rule."""
    check_signs(signs)
    if not is_rule_of(signs, rule):
        raise InvalidRule("a rule is a tuple of a kind, a sign, kinds and asks that fit the signs")
    return rule_text(rule)


def format_net(signs, net):
    """The text of a net."""
    check_signs(signs)
    check_net(signs, net)
    return net_text(net)


def format_book(book):
    """The text of a book: its signs, then its rules, each on a line."""
    check_book(book)
    return "\n".join([signs_text(book.signs)] + [rule_text(rule) for rule in book.rules])


def parse_tree(signs, text):
    """The tree that a text tells."""
    check_signs(signs)
    tree = tree_in(signs, text) if isinstance(text, str) else None
    if tree is None:
        raise ParseError(0)
    return tree


def parse_rule(signs, text):
    """The rule that a text tells."""
    check_signs(signs)
    rule = rule_in(signs, text) if isinstance(text, str) else None
    if rule is None:
        raise ParseError(0)
    return rule


def parse_net(signs, text):
    """The net that a text tells."""
    check_signs(signs)
    net = net_in(signs, text) if isinstance(text, str) else None
    if net is None:
        raise ParseError(0)
    return net


def parse_book(text):
    """The book that a text tells."""
    lines = text.split("\n") if isinstance(text, str) else [""]
    signs = signs_in(lines[0])
    if signs is None:
        raise ParseError(0)
    rules = []
    for at, line in enumerate(lines[1:], start=1):
        rule = rule_in(signs, line)
        if rule is None or at > MOST_RULES:
            raise ParseError(at)
        rules.append(rule)
    return Book(signs, rules)
