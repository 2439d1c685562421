"""Books whose kinds are lots of other books, and a kind for some of these lots.

Each tree has one lot: so any of the lots may be taken, and the others left out.
"""

from likeboughs.books import Book
from likeboughs.fields import count_of_none
from likeboughs.reach import indexes_beneath
from likeboughs.rounds import patterns_let, steps_let
from likeboughs.words import name_at


def asks_of(row, pattern):
    """The asks that tell a pattern of brothers with a row of lots: brothers with unlike lots are not the same."""
    pairs = [(first, second) for second in range(len(row)) for first in range(second) if row[first] == row[second]]
    return tuple(sorted([(first, second, pattern[first] == pattern[second]) for first, second in pairs]))


def rules_of_form(name, sign, row, patterns, many_let):
    """Rules of a kind for brothers with a row of lots and with one of some patterns, of so many that are let."""
    names = tuple([name_at(lot) for lot in row])
    if len(patterns) == many_let:
        return [(name, sign, names, ())]
    return [(name, sign, names, asks_of(row, pattern)) for pattern in patterns]


def forms_of(steps):
    """A dict from each sign and row of lots to the list of pairs of a pattern and the lot told."""
    forms = {}
    for sign, row, pattern, lot in steps:
        forms.setdefault((sign, row), []).append((pattern, lot))
    return forms


def rules_of_lots(name, lots, forms, counts):
    """Rules of a kind for the trees that have one of some lots."""
    rules = []
    for sign, row in forms:
        patterns = [pattern for pattern, lot in forms[(sign, row)] if lot in lots]
        if patterns != []:
            rules.extend(rules_of_form(name, sign, row, patterns, len(patterns_let(counts, row))))
    return rules


def rules_above(name, none, any_tree, signs):
    """Rules of a kind for the trees that have one beneath that is of no kind: of the kind called none."""
    rules = []
    for sign in signs:
        for place in range(signs[sign]):
            kinds = [any_tree] * signs[sign]
            kinds[place] = none
            rules.append((name, sign, tuple(kinds), ()))
    return rules


def next_number(counts):
    """A number beyond those of all lots that are counted, and beyond 0."""
    return max(list(counts), default=0) + 1


def name_for(wanted, counts):
    """The name of the kind of the trees that have wanted lots: the lot's own name if there is just one."""
    return name_at(wanted[0] if len(wanted) == 1 else next_number(counts))


def rules_of_all(kind, wanted, forms, counts, lots):
    """Rules of a kind for the trees that have wanted lots, and those of each lot, called by its own name."""
    named = [(name_at(lot), [lot]) for lot in lots]
    if len(wanted) != 1:
        named.append((kind, wanted))
    return [rule for name, held in named for rule in rules_of_lots(name, held, forms, counts)]


def kept_book(signs, rules, kind):
    """A tuple of a book and of a kind, the book with those rules alone that the trees of the kind hang on."""
    return (Book(signs, [rules[index] for index in indexes_beneath(rules, kind)]), kind)


def book_of_lots(signs, field, wanted):
    """A tuple (book, kind) whose trees are those that have lots of a field out of a list."""
    counts = field.counts
    kind = name_for(wanted, counts)
    rules = rules_of_all(kind, wanted, forms_of(field.steps), counts, list(counts))
    return kept_book(signs, rules, kind)


def book_with_none(maker, field, wanted):
    """A tuple (book, kind) whose trees are those that have lots of a maker's field out of a list, or the lot ()."""
    counts, signs = field.counts, maker.brothers
    none, any_tree = name_at(0), name_at(next_number(counts) + 1)
    kind = name_for([0, *wanted], counts)
    forms = forms_of([step[:4] for step in steps_let(maker, counts)])
    rules = rules_of_all(kind, [0, *wanted], forms, counts, [0, *counts])
    for name in list({none: True, kind: True}):
        rules.extend(rules_above(name, none, any_tree, signs))
    rules.extend([(any_tree, sign, (any_tree,) * signs[sign], ()) for sign in signs])
    return kept_book(signs, rules, kind)


def book_of_others(maker, field, wanted):
    """A tuple (book, kind) whose trees are those that have lots out of a list, or the lot (), if there are such."""
    if count_of_none(maker, field.counts) > 0:
        return book_with_none(maker, field, wanted)
    return book_of_lots(maker.brothers, field, wanted)
