"""Rules, and the books that hold them."""

from likeboughs.errors import InvalidBook, InvalidKind, InvalidMatch, InvalidNames, InvalidRules
from likeboughs.trees import check_signs
from likeboughs.words import is_between, is_name

MOST_RULES = 2000


def is_ask(brothers, thing):
    """Whether an object asks of two of so many brothers that they are the same tree, or are not."""
    if not isinstance(thing, tuple) or len(thing) != 3:
        return False
    first, second, same = thing
    return is_between(second, 1, brothers - 1) and is_between(first, 0, second - 1) and isinstance(same, bool)


def are_asks(brothers, thing):
    """Whether an object is an ascending tuple of different asks."""
    if not isinstance(thing, tuple) or not all([is_ask(brothers, ask) for ask in thing]):
        return False
    return all([thing[at] < thing[at + 1] for at in range(len(thing) - 1)])


def is_rule_of(signs, thing):
    """Whether an object is a rule of signs that were checked before."""
    if not isinstance(thing, tuple) or len(thing) != 4:
        return False
    kind, sign, kinds, asks = thing
    if not is_name(kind) or not isinstance(sign, str) or sign not in signs:
        return False
    if not isinstance(kinds, tuple) or len(kinds) != signs[sign]:
        return False
    return all([is_name(name) for name in kinds]) and are_asks(len(kinds), asks)


def is_rule(signs, thing):
    """Whether an object is a rule of the signs."""
    check_signs(signs)
    return is_rule_of(signs, thing)


def check_rules(signs, rules):
    """Raise InvalidRules unless an object is a list of at most two thousand rules of the signs."""
    if not isinstance(rules, list) or len(rules) > MOST_RULES:
        raise InvalidRules("the rules are a list of at most two thousand")
    if not all([is_rule_of(signs, rule) for rule in rules]):
        raise InvalidRules("each rule is a tuple of a kind, a sign, kinds and asks that fit the signs")


def check_kind(kind):
    """Raise InvalidKind unless an object is a name, whether a book has it or not."""
    if not is_name(kind):
        raise InvalidKind("a kind is a name of one to eight letters from a to z")


def are_new_names(kinds, names):
    """Whether an object is a dict from some of the kinds to names that keeps all kinds apart."""
    if not isinstance(names, dict):
        return False
    if not all([kind in kinds and is_name(names[kind]) for kind in names]):
        return False
    return len({names.get(kind, kind) for kind in kinds}) == len(kinds)


def renamed_rule(names, rule):
    """A rule with the new names of its kinds."""
    kind, sign, kinds, asks = rule
    return (names.get(kind, kind), sign, tuple([names.get(name, name) for name in kinds]), asks)


class Book:
    """Signs, and a list of rules of them."""

    def __init__(self, signs, rules):
        check_signs(signs)
        check_rules(signs, rules)
        self._signs = dict(signs)
        self._rules = list(rules)

    @property
    def signs(self):
        """A new dict of the signs."""
        return dict(self._signs)

    @property
    def rules(self):
        """A new list of the rules, in order."""
        return list(self._rules)

    @property
    def kinds(self):
        """The ascending list of the names that stand in the rules as kind or among the kinds."""
        return sorted({name for rule in self._rules for name in [rule[0], *rule[2]]})

    def __len__(self):
        return len(self._rules)

    def __eq__(self, other):
        return isinstance(other, Book) and self._signs == other._signs and self._rules == other._rules

    def __or__(self, other):
        """The book with the rules of this one, then those of the other one that this one lacks."""
        if self._signs != other._signs:
            raise InvalidMatch("the signs of the two books are unlike")
        held = set(self._rules)
        return Book(self._signs, self._rules + [rule for rule in other._rules if rule not in held])

    def rules_of(self, kind):
        """The ascending list of the indexes of the rules of a kind."""
        check_kind(kind)
        return [index for index, rule in enumerate(self._rules) if rule[0] == kind]

    def renamed(self, names):
        """The book with other names for some kinds."""
        if not are_new_names(self.kinds, names):
            raise InvalidNames("new names are a dict from kinds of the book to names, all different")
        return Book(self._signs, [renamed_rule(names, rule) for rule in self._rules])


def check_book(book):
    """Raise InvalidBook unless an object is a book."""
    if not isinstance(book, Book):
        raise InvalidBook("a book is an object of the class Book")
