"""Books whose kinds are lots of other books, for the trees that have some of these lots.

Each tree has one lot: so any of them may be taken, and the others left out.
Lots that make no difference to what is wanted share a kind, told by a number.
"""

from likeboughs.books import Book
from likeboughs.merging import merged
from likeboughs.reach import indexes_beneath
from likeboughs.words import name_at


def asks_of(row, pattern):
    """The asks that tell a pattern of brothers of a row of kinds of which no two have a tree in common."""
    pairs = [(first, second) for second in range(len(row)) for first in range(second) if row[first] == row[second]]
    return tuple(sorted([(first, second, pattern[first] == pattern[second]) for first, second in pairs]))


def rules_of(name, wanted, steps):
    """Rules of a kind for the trees that steps tell to be of wanted ones of the kinds in steps."""
    forms = {}
    for sign, row, pattern, told in steps:
        forms.setdefault((sign, row), {})[pattern] = told
    rules = []
    for sign, row in forms:
        told = forms[(sign, row)]
        patterns = [pattern for pattern in told if told[pattern] in wanted]
        asked = [()] if len(patterns) == len(told) else [asks_of(row, pattern) for pattern in patterns]
        rules.extend([(name, sign, tuple([name_at(number) for number in row]), asks) for asks in asked])
    return rules


def rules_above(name, none, any_tree, signs):
    """Rules of a kind for the trees that have one of the kind called none beneath them."""
    rules = []
    for sign in signs:
        for place in range(signs[sign]):
            kinds = [any_tree] * signs[sign]
            kinds[place] = none
            rules.append((name, sign, tuple(kinds), ()))
    return rules


def kept_book(signs, rules, kind):
    """A tuple of a book and of a kind, the book with those rules alone that the trees of the kind hang on."""
    return (Book(signs, [rules[index] for index in indexes_beneath(rules, kind)]), kind)


def book_of_lots(maker, counts, wanted):
    """A tuple (book, kind) whose trees are those that have lots out of a list.

    The list has 0 only if there are trees with the lot (): these are told by
    what stands beneath them, too, as no tree above one of them has a kind.
    """
    signs = maker.brothers
    classes, steps = merged(maker, counts, wanted)
    numbers = list({classes[lot]: True for lot in wanted})
    beyond = max(list(classes.values())) + 1
    kind = name_at(numbers[0] if len(numbers) == 1 else beyond)
    named = {name_at(number): [number] for number in list(classes.values())}
    rules = [rule for name in [*named, kind] for rule in rules_of(name, named.get(name, numbers), steps)]
    if 0 in wanted:
        none, any_tree = name_at(classes[0]), name_at(beyond + 1)
        for name in list({none: True, kind: True}):
            rules.extend(rules_above(name, none, any_tree, signs))
        rules.extend([(any_tree, sign, (any_tree,) * signs[sign], ()) for sign in signs])
    return kept_book(signs, list({rule: True for rule in rules}), kind)
