"""Rows of brothers told without asks: each brother is one of some trees of a list.

Some trees of a list are told by an integer in which the bit of each of them is
set. Two trees are not the same just if their numbers in the list differ at some
figure: so they are told apart by the trees with the one and with the other figure.
"""

from likeboughs.gathering import firsts_asked
from likeboughs.rows import rows_out_of
from likeboughs.shapes import asks_hold


def sides_of(many):
    """For each figure of the numbers of so many trees the pairs of the trees that have the one and the other figure."""
    every = (1 << many) - 1
    sides = []
    for figure in range((many - 1).bit_length()):
        high = sum([1 << number for number in range(many) if number >> figure & 1])
        sides.extend([(figure, every - high, high), (figure, high, every - high)])
    return sides


def split_rows(many, start, apart):
    """Rows that let just those rows of brothers out of a row to start with in which some are not the same.

    apart is the list of pairs of places of brothers that are not the same; they
    are out of one list of so many trees.
    """
    rows = {}
    for chosen in rows_out_of([sides_of(many)] * len(apart)):
        # Two figures are enough to tell three trees apart: each of both splits one tree from others.
        if len({figure for figure, _, _ in chosen}) <= 2:
            row = list(start)
            for (first, second), (_, one, other) in zip(apart, chosen):
                row[first] = row[first] & one
                row[second] = row[second] & other
            if 0 not in row:
                rows[tuple(row)] = True
    return list(rows)


def rows_asked(many, asks):
    """Rows that let, together, just those brothers of which asks hold.

    many tells for each place how many trees the brother there is out of; asks are
    about brothers that are out of one list, and do not bar each other.
    """
    firsts = firsts_asked(len(many), asks)
    choices = [
        [1 << number for number in range(many[place])] if firsts.count(place) > 1 else [(1 << many[place]) - 1]
        for place in range(len(many))
    ]
    pairs = sorted({tuple(sorted([firsts[first], firsts[second]])) for first, second, same in asks if not same})
    trees = [many[first] for first, _ in pairs]
    found = [row for start in rows_out_of(choices) for row in split_rows(max(trees, default=1), start, pairs)]
    return list({tuple([row[first] for first in firsts]): True for row in found})


def asks_telling(every, let):
    """Tuples of asks of which one, at least, holds of patterns that are let, and none of the others there are."""
    if let == []:
        return []
    if len(let) == len(every):
        return [()]
    brothers = range(len(every[0]))
    pairs = [(first, second) for second in brothers for first in range(second)]
    pairs = [pair for pair in pairs if any([pattern[pair[0]] == pattern[pair[1]] for pattern in every])]
    rows = rows_out_of([[None, True, False]] * len(pairs))
    told = []
    for row in rows:
        asks = tuple(sorted([(*pair, same) for pair, same in zip(pairs, row) if same is not None]))
        held = [pattern for pattern in every if asks_hold(asks, pattern)]
        if held != [] and all([pattern in let for pattern in held]):
            told.append((-len(held), len(asks), asks, held))
    found = []
    left = list(let)
    for _, _, asks, held in sorted(told):
        if any([pattern in left for pattern in held]):
            found.append(asks)
            left = [pattern for pattern in left if pattern not in held]
    return found
