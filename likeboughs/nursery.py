"""The smallest trees of each lot."""

from heapq import heappop, heappush

from likeboughs.rounds import MOST_COUNTED, steps_let
from likeboughs.shapes import firsts_of


class Nursery:
    """Trees that steps make, grown in the order of their sizes, at most so many of each lot."""

    def __init__(self, steps, most):
        self._steps = steps
        self._most = most
        self._grown = []
        self._places = []
        self._held = {}
        self._waiting = []
        self._queue = []

    def grow(self):
        """A dict from lots to lists of their smallest trees, the smallest one first."""
        for sign, row, _, lot, _ in self._steps:
            if row == ():
                self._wait(sign, (), lot)
        while self._queue:
            places, at = heappop(self._queue)
            sign, brothers, lot = self._waiting[at]
            if not self._is_full(lot):
                beneath = [self._grown[number] for number in brothers]
                self._held.setdefault(lot, []).append(len(self._grown))
                self._grown.append((sign, *beneath))
                self._places.append(places)
                self._wait_above(lot)
        return {lot: [self._grown[number] for number in self._held[lot]] for lot in self._held}

    def _is_full(self, lot):
        return len(self._held.get(lot, [])) >= self._most

    def _wait(self, sign, brothers, lot):
        places = 1 + sum([self._places[number] for number in brothers])
        heappush(self._queue, (places, len(self._waiting)))
        self._waiting.append((sign, brothers, lot))

    def _wait_above(self, newest_lot):
        """Let the trees wait in which the newest tree, of a lot, stands beneath the top."""
        for sign, row, pattern, lot, _ in self._steps:
            if newest_lot in row and not self._is_full(lot):
                for place in firsts_of(pattern):
                    if row[place] == newest_lot:
                        for brothers in self._brothers(row, pattern, place):
                            self._wait(sign, brothers, lot)

    def _brothers(self, row, pattern, place):
        """All rows of brothers with the newest tree at one place and with older ones elsewhere."""
        newest = len(self._grown) - 1
        rows = [()]
        for at, first in enumerate(pattern):
            if first < at:
                rows = [(*taken, taken[first]) for taken in rows]
            elif at == place:
                rows = [(*taken, newest) for taken in rows]
            else:
                older = [number for number in self._held.get(row[at], []) if number != newest]
                rows = [(*taken, number) for taken in rows for number in older if number not in taken]
        return rows


def smallest_trees(maker, known):
    """A dict from lots to lists of four trees of least sizes, or of all trees if there are fewer.

    In g(x, y, y) a small y is worth more than a small x. So the smallest trees
    of one lot may need the next ones beyond the smallest of another lot, which
    may need those beyond in a third lot: one more for each lot there is.
    """
    nursery = Nursery(steps_let(maker, known), MOST_COUNTED + len(known))
    found = nursery.grow()
    return {lot: found[lot][:MOST_COUNTED] for lot in found}
