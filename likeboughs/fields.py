"""Which lots trees have, and how many different trees have each of them, known up to four.

Lots are told by their numbers in a maker ([8] says why four is enough). A tree
that stands beneath another one gives it a kind only if it has a kind itself:
so only lots that are not () are followed.
"""

from itertools import product

from likeboughs.rounds import MOST_COUNTED, steps_let, ways


def rows_with(lots, lot, many):
    """All rows of so many lots out of a list, at least one, in which a lot stands."""
    if many == 1:
        return [(lot,)]
    if many == 2:
        return [(lot, other) for other in lots] + [(other, lot) for other in lots if other != lot]
    return [row for row in product(lots, lots, lots) if lot in row]


class Field:
    """The counts of a maker's lots but (), and the steps that they let.

    counts is a dict from lots to their counts; steps is the list of the steps
    that tell such lots, as tuples (sign, row of lots, pattern, lot told).
    """

    def __init__(self, maker):
        self.counts = {}
        self.steps = []
        self._maker = maker
        self._signs = [[sign for sign in maker.brothers if maker.brothers[sign] == many] for many in range(4)]
        self._ways = {}
        self._made = {}
        self._waiting = []
        self._let(0, ())
        while self._waiting:
            self._go_through(self._waiting.pop())

    def _go_through(self, lot):
        """Look at the steps from a lot, with all lots found so far, once its count has grown."""
        found = list(self.counts)
        for many in (1, 2, 3):
            if self._signs[many]:
                for row in rows_with(found, lot, many):
                    self._let(many, row)

    def _let(self, many, row):
        for sign in self._signs[many]:
            for pattern, lot in self._maker.told(sign, row):
                self._add(sign, row, pattern, lot)

    def _add(self, sign, row, pattern, lot):
        """Count the trees that a step makes, as far as they were not counted before."""
        key = (sign, row, pattern)
        before = self._ways.get(key, 0)
        now = ways(self.counts, row, pattern)
        if now > before:
            if before == 0:
                self.steps.append((sign, row, pattern, lot))
            self._ways[key] = now
            self._made[lot] = self._made.get(lot, 0) + now - before
            self._count(lot, min(MOST_COUNTED, self._made[lot]))

    def _count(self, lot, number):
        if number > self.counts.get(lot, 0):
            self.counts[lot] = number
            if lot not in self._waiting:
                self._waiting.append(lot)


def count_of_none(maker, known):
    """How many trees have the lot (), up to four, from the counts of all other lots."""
    made = len([sign for sign in maker.brothers if maker.brothers[sign] == 0 and maker.step(sign, (), ()) == 0])
    if max(list(maker.brothers.values())) == 0:
        return min(MOST_COUNTED, made)
    # Whatever stands above a tree without kinds has none, too: so there is no end of such trees.
    if made > 0 or 0 in [lot for _, _, _, lot, _ in steps_let(maker, known)]:
        return MOST_COUNTED
    return 0


def least_counts(maker):
    """A dict from all lots of a maker to their counts."""
    known = Field(maker).counts
    number = count_of_none(maker, known)
    return {0: number, **known} if number > 0 else known
