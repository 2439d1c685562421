"""The steps that the rules of a book tell, from lots beneath to the lot of a tree.

A lot may have thousands of kinds and stand beneath thousands of places. So
each lot is given a number when it is first met, and a step is worked out once.
"""

from likeboughs.shapes import asks_hold, pattern_in


class Maker:
    """The rules of a book, laid out so that those that may make a tree are soon found."""

    def __init__(self, book):
        self.brothers = book.signs
        self._ready = {}
        self._lots = []
        self._numbers = {}
        self._steps = {}
        for index, (kind, sign, kinds, asks) in enumerate(book.rules):
            # No kind stands beneath a leaf, and no name is empty.
            first = kinds[0] if kinds else ""
            self._ready.setdefault((sign, first), []).append((index, kind, kinds, asks))

    def number_of(self, lot):
        """The number of a lot, a new one if it was not met before."""
        if lot not in self._numbers:
            self._numbers[lot] = len(self._lots)
            self._lots.append({kind: True for kind in lot})
        return self._numbers[lot]

    def lot(self, number):
        """The lot with a number."""
        return tuple(self._lots[number])

    def has(self, number, kind):
        """Whether a kind is in the lot with a number."""
        return kind in self._lots[number]

    def step(self, sign, row, pattern):
        """The number of the lot of a tree, from its sign, its brothers' lots' numbers, and their pattern."""
        return self._step(sign, row, pattern)[0]

    def makers(self, sign, row, pattern):
        """A dict from each kind that such a tree is of to the index of a rule that makes it."""
        return self._step(sign, row, pattern)[1]

    def _step(self, sign, row, pattern):
        key = (sign, row, pattern)
        if key not in self._steps:
            makers = self._makers(sign, row, pattern)
            self._steps[key] = (self.number_of(tuple(sorted(makers))), makers)
        return self._steps[key]

    def _makers(self, sign, row, pattern):
        makers = {}
        firsts = list(self._lots[row[0]]) if row else [""]
        for first in firsts:
            for index, kind, kinds, asks in self._ready.get((sign, first), []):
                if kind not in makers and asks_hold(asks, pattern) and self._are_beneath(kinds, row):
                    makers[kind] = index
        return makers

    def _are_beneath(self, kinds, row):
        return all([kinds[at] in self._lots[number] for at, number in enumerate(row)])


def lots_of_nodes(maker, nodes):
    """The numbers of the lots of the different parts of a tree, told by nodes."""
    found = []
    for sign, *brothers in nodes:
        row = tuple([found[number] for number in brothers])
        found.append(maker.step(sign, row, pattern_in(brothers)))
    return found
