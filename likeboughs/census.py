"""How many trees of each size each lot has, and which these are."""

from likeboughs.fields import rows_with
from likeboughs.rows import rows_apart
from likeboughs.shapes import firsts_of


def parts_of(row, pattern):
    """For each different brother its lot, and at how many places it stands."""
    return [(row[at], pattern.count(at)) for at in firsts_of(pattern)]


def group_of(row, pattern):
    """The different brothers as in parts_of, but told alike whatever their order is: it changes no number."""
    return tuple(sorted(parts_of(row, pattern), key=lambda part: (part[1], part[0])))


def sizes_left(rest, weight, is_last):
    """The sizes to try for a brother that stands at so many places; the last one has to take what is left."""
    most = rest // weight
    return [most] if is_last else list(range(1, most + 1))


def splits(many, parts, places):
    """How so many places of signs can be shared among different brothers, at least one way each.

    The rows are pairs of a lot and a size. Brothers of one lot and one size come
    out of the same trees, so each one leaves one tree fewer to the next.
    """
    rows = [((), places)]
    for at, (lot, weight) in enumerate(parts):
        longer = []
        for pairs, rest in rows:
            for size in sizes_left(rest, weight, at == len(parts) - 1):
                if many[lot][size] > pairs.count((lot, size)):
                    longer.append(((*pairs, (lot, size)), rest - weight * size))
        rows = longer
    return [pairs for pairs, rest in rows if rest == 0]


class Census:
    """The trees that a maker's lots have, but (), up to a greatest size."""

    def __init__(self, maker, most):
        self._maker = maker
        self._most = most
        self._signs = [[sign for sign in maker.brothers if maker.brothers[sign] == many] for many in range(4)]
        self._many = {}
        self._sizes = {}
        self._steps = {}
        self._groups = {}
        self._known = {}
        self._found = {}
        self._tally()

    def how_many(self, kind, size):
        """How many trees of a kind have a size."""
        return sum([self._many[lot][size] for lot in self._many if self._maker.has(lot, kind)])

    def trees(self, kind, size):
        """The ascending list of the trees of a kind that have a size, if they are not too many to be made."""
        lots = [lot for lot in self._many if self._maker.has(lot, kind)]
        return sorted([tree for lot in lots for tree in self._trees(lot, size)])

    def _tally(self):
        for sign in self._signs[0]:
            for pattern, lot in self._maker.told(sign, ()):
                self._steps.setdefault(lot, []).append((sign, (), pattern))
                self._add(lot, 1, 1)
        self._meet_new(1)
        for size in range(2, self._most + 1):
            for group in self._groups:
                number = self._number(group, size - 1)
                if number > 0:
                    for lot in self._groups[group]:
                        self._add(lot, size, number)
            self._meet_new(size)

    def _add(self, lot, size, number):
        if lot not in self._many:
            self._many[lot] = [0] * (self._most + 1)
            self._sizes[lot] = []
        self._many[lot][size] += number

    def _meet_new(self, size):
        """Note which lots have trees of a size, and let those that are new stand beneath others."""
        new = []
        for lot in self._many:
            if self._many[lot][size] > 0:
                if self._sizes[lot] == []:
                    new.append(lot)
                self._sizes[lot].append(size)
        for at, lot in enumerate(new):
            older = [name for name in self._many if name not in new[at + 1:]]
            for many in (1, 2, 3):
                if self._signs[many]:
                    for row in rows_with(older, lot, many):
                        self._meet(many, row)

    def _meet(self, many, row):
        """Note the steps from a row of lots, if its trees are small enough to stand beneath a sign."""
        if 1 + sum([self._sizes[lot][0] for lot in row]) <= self._most:
            for sign in self._signs[many]:
                for pattern, lot in self._maker.told(sign, row):
                    self._steps.setdefault(lot, []).append((sign, row, pattern))
                    self._groups.setdefault(group_of(row, pattern), []).append(lot)

    def _number(self, group, places):
        """In how many ways different trees can be taken for a group that have so many places together."""
        lot, weight = group[-1]
        if len(group) == 1:
            return self._many[lot][places // weight] if places % weight == 0 else 0
        key = (group, places)
        if key not in self._known:
            self._known[key] = self._free(group, places) - self._same(group, places)
        return self._known[key]

    def _free(self, group, places):
        """In how many ways, if the last tree of the group may be one of the others."""
        lot, weight = group[-1]
        many = self._many[lot]
        return sum([
            many[size] * self._number(group[:-1], places - weight * size)
            for size in self._sizes[lot] if weight * size < places
        ])

    def _same(self, group, places):
        """In how many ways, if the last tree of the group is one of the others."""
        lot, weight = group[-1]
        number = 0
        for at, (other, beside) in enumerate(group[:-1]):
            if other == lot:
                left = (*group[:at], *group[at + 1:-1], (lot, weight + beside))
                number += self._number(left, places)
        return number

    def _trees(self, wanted, size):
        """All trees of a lot that have a size; those made before are kept."""
        if (wanted, size) not in self._found:
            self._found[(wanted, size)] = [
                (sign, *brothers) for sign, row, pattern in self._steps[wanted]
                for brothers in self._brothers(row, pattern, size - 1)
            ]
        return self._found[(wanted, size)]

    def _brothers(self, row, pattern, places):
        """All rows of brothers with lots and a pattern that have so many places together.

        Only splits with a way are followed: so no pool has many more trees
        than are wanted in the end.
        """
        if row == ():
            return [()] if places == 0 else []
        firsts = firsts_of(pattern)
        found = []
        for pairs in splits(self._many, parts_of(row, pattern), places):
            for taken in rows_apart([self._trees(lot, size) for lot, size in pairs]):
                found.append(tuple([taken[firsts.index(first)] for first in pattern]))
        return found
