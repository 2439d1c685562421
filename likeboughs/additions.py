"""Asks that are added to rules, and the least of them with which a tree is of a kind no more."""

from likeboughs.barring import Barring
from likeboughs.books import Book, check_book, check_kind, is_ask
from likeboughs.errors import InvalidAdditions, InvalidTree, TooMany
from likeboughs.readings import is_of
from likeboughs.words import is_between

MOST_ADDITIONS = 8


def is_addition(rules, thing):
    """Whether an object is a tuple of the index of a rule and of an ask about places that no ask of it is about."""
    if not isinstance(thing, tuple) or len(thing) != 2:
        return False
    index, ask = thing
    if not is_between(index, 0, len(rules) - 1) or not is_ask(len(rules[index][2]), ask):
        return False
    return not any([ask[:2] == held[:2] for held in rules[index][3]])


def are_additions(rules, thing):
    """Whether an object is a list of additions of which no two have the same rule and the same places."""
    if not isinstance(thing, list) or not all([is_addition(rules, part) for part in thing]):
        return False
    return len({(index, ask[:2]) for index, ask in thing}) == len(thing)


def with_asks(book, additions):
    """The book in which rules have more asks."""
    check_book(book)
    rules = book.rules
    if not are_additions(rules, additions):
        raise InvalidAdditions("additions are a list of tuples of the index of a rule and of an ask that it may have")
    for index, ask in additions:
        kind, sign, kinds, asks = rules[index]
        rules[index] = (kind, sign, kinds, tuple(sorted([*asks, ask])))
    return Book(book.signs, rules)


def least_additions(book, kind, tree):
    """The ascending list of the least lists of additions with which a tree of a kind is of it no more."""
    check_book(book)
    check_kind(kind)
    if not is_of(book, kind, tree):
        raise InvalidTree("the tree is not of the kind")
    barring = Barring(book, tree)
    if len(barring.additions) > MOST_ADDITIONS:
        raise TooMany("there are more than eight additions that bar a rule somewhere in the tree")
    rules = book.rules
    return sorted([found for found in barring.least_lists(kind) if are_additions(rules, found)])
