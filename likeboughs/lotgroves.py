"""Groves in which the lot of each tree is told when it is planted."""

from likeboughs.groves import Grove
from likeboughs.shapes import pattern_in


class LotGrove:
    """Different trees, told by numbers as in a grove.

    lots_told has the lot of each tree, as a tuple of kinds; places has its size.
    """

    def __init__(self, maker):
        self.lots_told = []
        self._maker = maker
        self._grove = Grove()
        self.places = self._grove.places
        self._lots = []

    def plant(self, node):
        """The number of the tree of a node, a new one if there is none yet."""
        number = self._grove.plant(node)
        if number == len(self.lots_told):
            sign, *brothers = node
            row = tuple([self._lots[brother] for brother in brothers])
            lot = self._maker.step(sign, row, pattern_in(brothers))
            self._lots.append(lot)
            self.lots_told.append(self._maker.lot(lot))
        return number
