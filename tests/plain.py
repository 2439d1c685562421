"""What the document says, worked out the long way: by trying all trees, rules and rows."""

import random
from itertools import combinations, product

from likeboughs.books import Book


def plain_trees(signs, most):
    """All trees up to a size by size, found by trying all rows of smaller trees."""
    found = {number: [] for number in range(1, most + 1)}
    for number in range(1, most + 1):
        for sign, brothers in signs.items():
            for sizes in product(range(1, number), repeat=brothers):
                if sum(sizes) == number - 1:
                    found[number].extend((sign, *row) for row in product(*[found[part] for part in sizes]))
    return {number: sorted(found[number]) for number in found}


def plain_size(tree):
    return 1 + sum(plain_size(brother) for brother in tree[1:])


def plain_depth(tree):
    return 1 + max([plain_depth(brother) for brother in tree[1:]], default=0)


def asks_are_met(asks, brothers):
    return all((brothers[first] == brothers[second]) is same for first, second, same in asks)


def plain_lot(book, tree, known=None):
    """The lot of a tree; known keeps those of trees asked for before."""
    known = {} if known is None else known
    if tree not in known:
        beneath = [plain_lot(book, brother, known) for brother in tree[1:]]
        known[tree] = tuple(sorted({
            kind for kind, sign, kinds, asks in book.rules if sign == tree[0] and asks_are_met(asks, tree[1:])
            and all(name in lot for name, lot in zip(kinds, beneath))
        }))
    return known[tree]


def plain_readings(book, kind, tree):
    """All readings of a tree as a kind."""
    found = []
    for index, (name, sign, kinds, asks) in enumerate(book.rules):
        if name == kind and sign == tree[0] and asks_are_met(asks, tree[1:]):
            below = [plain_readings(book, *pair) for pair in zip(kinds, tree[1:])]
            found.extend((index, *row) for row in product(*below))
    return found


def trees_above(book, held):
    """All trees whose brothers are trees held, as pairs with their lots."""
    known = {}
    trees = [tree for row in held.values() for tree in row]
    for sign, brothers in book.signs.items():
        for row in product(trees, repeat=brothers):
            yield plain_lot(book, (sign, *row), known), (sign, *row)


def plain_held(book, most_lots=8):
    """For each lot four trees, or all if there are fewer; None if there are more lots than told."""
    held = {}
    while True:
        grown = {lot: list(trees) for lot, trees in held.items()}
        for lot, tree in trees_above(book, held):
            if len(grown.setdefault(lot, [])) < 4 and tree not in grown[lot]:
                grown[lot].append(tree)
        if len(grown) > most_lots:
            return None
        if grown == held:
            return held
        held = grown


def plain_counts(book):
    held = plain_held(book)
    return {lot: len(held[lot]) for lot in held}


def is_closed(book, rows):
    """Whether the trees of rows of a table make no other lots, and not more of each lot than four or than stand there."""
    held = dict(rows)
    made = {}
    for lot, tree in trees_above(book, held):
        made.setdefault(lot, set()).add(tree)
    return all(lot in held and (len(held[lot]) == 4 or len(made[lot]) <= len(held[lot])) for lot in made)


def random_book(chance, signs, names, most_rules):
    """A book of signs with rules taken by chance, with and without asks."""
    rules = []
    for _ in range(chance.randint(1, most_rules)):
        sign = chance.choice(sorted(signs))
        asks = []
        for first, second in combinations(range(signs[sign]), 2):
            # Both asks of one pair are rare: no tree meets them.
            asks.extend((first, second, same) for same in chance.choice([[], [], [], [True], [False], [False, True]]))
        rules.append((chance.choice(names), sign, tuple(chance.choice(names) for _ in range(signs[sign])), tuple(asks)))
    return Book(signs, rules)


SOME_SIGNS = [
    {'a': 0, 'f': 2}, {'a': 0, 'b': 0, 'f': 2}, {'a': 0, 's': 1}, {'a': 0, 's': 1, 'f': 2}, {'a': 0, 'g': 3},
    {'a': 0, 'b': 0, 'g': 3}, {'a': 0, 's': 1, 'g': 3}, {'a': 0, 'b': 0}, {'f': 2, 'b': 0, 'h': 2},
]


def random_books(seed, many, least_lots=3):
    """So many books taken by chance, of some few lots, each with trees for its lots."""
    chance = random.Random(seed)
    found = []
    while len(found) < many:
        signs = SOME_SIGNS[len(found) % len(SOME_SIGNS)]
        book = random_book(chance, signs, ['k', 'l', 'm'][:chance.randint(1, 3)], 9)
        held = plain_held(book, 5 if 3 in signs.values() else 8)
        if held is not None and len(held) >= min(least_lots, 1 + sum(signs.values())):
            found.append((book, held))
    return found


def plain_order(trees):
    """Trees in the order of trees: by size, then as tuples."""
    return sorted(trees, key=lambda tree: (plain_size(tree), tree))


def plain_of(book, trees):
    """A dict from kinds, and a name that is none of the book, to the lists of those trees that are of the kind."""
    known = {}
    lots = [(tree, plain_lot(book, tree, known)) for tree in trees]
    return {kind: [tree for tree, lot in lots if kind in lot] for kind in book.kinds + ['none']}


def plain_filled(frame, tree):
    return tree if frame is None else (frame[0], *[plain_filled(brother, tree) for brother in frame[1:]])


def plain_places(frame):
    """The number of places of signs in a tree or a frame."""
    return 0 if frame is None else 1 + sum(plain_places(brother) for brother in frame[1:])


def plain_surroundings(signs, trees, levels):
    """All surroundings of at most so many levels in which the other brothers are out of a list of trees."""
    found = [None]
    last = [None]
    for _ in range(levels):
        last = [
            (sign, *row[:place], frame, *row[place:]) for frame in last for sign, brothers in signs.items()
            for place in range(brothers) for row in product(trees, repeat=brothers - 1)
        ]
        found.extend(last)
    return found


def plain_parts(book, kind, one, other, frame, known=None):
    """Whether just one of two trees, put into a frame, is of a kind."""
    known = {} if known is None else known
    return len({kind in plain_lot(book, plain_filled(frame, tree), known) for tree in [one, other]}) == 2
