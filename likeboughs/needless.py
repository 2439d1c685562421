"""Rules and asks without which a kind has the same trees."""

from likeboughs.books import Book, check_book, check_kind
from likeboughs.errors import InvalidNumber
from likeboughs.spare import Spare
from likeboughs.words import is_between


def without_ask_of(rule, ask):
    """A rule that has one of its asks, told by its index, no more."""
    kind, sign, kinds, asks = rule
    return (kind, sign, kinds, (*asks[:ask], *asks[ask + 1:]))


def check_index(book, index):
    """Raise InvalidNumber unless an object is the index of a rule of a book."""
    if not is_between(index, 0, len(book) - 1):
        raise InvalidNumber("there is no rule with this index")


def without_rule(book, index):
    """The book without a rule."""
    check_book(book)
    check_index(book, index)
    rules = book.rules
    return Book(book.signs, rules[:index] + rules[index + 1:])


def without_ask(book, index, ask):
    """The book in which a rule has one of its asks no more."""
    check_book(book)
    check_index(book, index)
    rules = book.rules
    if not is_between(ask, 0, len(rules[index][3]) - 1):
        raise InvalidNumber("the rule has no ask with this index")
    rules[index] = without_ask_of(rules[index], ask)
    return Book(book.signs, rules)


def needless_rules(book, kind):
    """The ascending list of the indexes of rules without which a kind has the same trees, each taken by itself."""
    check_book(book)
    check_kind(kind)
    spare = Spare(book, kind)
    return [index for index in range(len(book)) if spare.is_needless(index)]


def needless_asks(book, kind):
    """The ascending list of pairs of the index of a rule and of an ask without which a kind has the same trees."""
    check_book(book)
    check_kind(kind)
    spare = Spare(book, kind)
    return [
        (index, ask) for index, rule in enumerate(book.rules) for ask in range(len(rule[3]))
        if spare.may_be(index, without_ask_of(rule, ask))
    ]
