"""How many trees of each size each lot has, and which these are."""

from likeboughs.fields import least_counts
from likeboughs.rounds import steps_let
from likeboughs.rows import rows_apart
from likeboughs.shapes import firsts_of


def parts_of(row, pattern):
    """For each different brother its lot, and at how many places it stands."""
    return [(row[at], pattern.count(at)) for at in firsts_of(pattern)]


def sizes_left(rest, weight, is_last):
    """The sizes to try for a brother that stands at so many places; the last one has to take what is left."""
    most = rest // weight
    return [most] if is_last else list(range(1, most + 1))


def splits(many, parts, places):
    """How so many places of signs can be shared among different brothers, and in how many ways.

    The rows are (ways, pairs of a lot and a size), with at least one way.
    Brothers of one lot and one size come out of the same trees, so each one
    leaves one tree fewer to the next.
    """
    rows = [(1, (), places)]
    for at, (lot, weight) in enumerate(parts):
        longer = []
        for ways, pairs, rest in rows:
            for size in sizes_left(rest, weight, at == len(parts) - 1):
                left = many[lot][size] - pairs.count((lot, size))
                if left > 0:
                    longer.append((ways * left, (*pairs, (lot, size)), rest - weight * size))
        rows = longer
    return [(ways, pairs) for ways, pairs, rest in rows if rest == 0]


class Census:
    """The trees of a book by lot and size, up to a greatest size."""

    def __init__(self, maker, most):
        self._maker = maker
        known = least_counts(maker)
        self._steps = steps_let(maker, known)
        self._many = {lot: [0] * (most + 1) for lot in known}
        self._found = {}
        self._tally(most)

    def _tally(self, most):
        groups = {}
        for _, row, pattern, lot, _ in self._steps:
            # The order of the brothers changes no number.
            groups.setdefault(tuple(sorted(parts_of(row, pattern))), []).append(lot)
        for size in range(1, most + 1):
            for parts in groups:
                ways = sum([split[0] for split in splits(self._many, parts, size - 1)])
                for lot in groups[parts]:
                    self._many[lot][size] += ways

    def _lots_with(self, kind):
        return [lot for lot in self._many if self._maker.has(lot, kind)]

    def how_many(self, kind, size):
        """How many trees of a kind have a size."""
        return sum([self._many[lot][size] for lot in self._lots_with(kind)])

    def trees(self, kind, size):
        """The ascending list of the trees of a kind that have a size, if they are not too many to be made."""
        return sorted([tree for lot in self._lots_with(kind) for tree in self._trees(lot, size)])

    def _trees(self, wanted, size):
        """All trees of a lot that have a size; those made before are kept."""
        if (wanted, size) not in self._found:
            self._found[(wanted, size)] = [
                (sign, *brothers) for sign, row, pattern, lot, _ in self._steps if lot == wanted
                for brothers in self._brothers(row, pattern, size - 1)
            ]
        return self._found[(wanted, size)]

    def _brothers(self, row, pattern, places):
        """All rows of brothers with lots and a pattern that have so many places together.

        Only splits with a way are followed: so no pool has many more trees
        than are wanted in the end.
        """
        firsts = firsts_of(pattern)
        found = []
        for _, pairs in splits(self._many, parts_of(row, pattern), places):
            for taken in rows_apart([self._trees(lot, size) for lot, size in pairs]):
                found.append(tuple([taken[firsts.index(first)] for first in pattern]))
        return found
