"""Trees of least sizes."""

from heapq import heappop, heappush

from likeboughs.groves import Grove
from likeboughs.rounds import MOST_COUNTED, steps_let
from likeboughs.shapes import firsts_of


class Nursery:
    """Trees that steps make, grown in a grove in the order of their sizes, at most so many of each lot.

    held is a dict from lots to the lists of the numbers of their trees, the
    smallest one first.
    """

    def __init__(self, grove, steps, most):
        self.held = {}
        self._grove = grove
        self._most = most
        self._above = {}
        self._waiting = []
        self._queue = []
        self._newest = None
        # For each lot the least sizes of trees that are held or wait, as many as may be held.
        self._sizes = {}
        for sign, row, pattern, lot in steps:
            for place in firsts_of(pattern):
                self._above.setdefault(row[place], []).append((sign, row, pattern, place, lot))
            if row == ():
                self._wait((sign,), lot)

    def next_tree(self):
        """Grow one more tree: its number and its lot, or None when there are no more to be grown."""
        if self._newest is not None:
            # Only now, as it may have been the last one that is asked for.
            self._wait_above(*self._newest)
            self._newest = None
        while self._queue:
            _, at = heappop(self._queue)
            node, lot = self._waiting[at]
            if not self._is_full(lot):
                number = self._grove.plant(node)
                self.held.setdefault(lot, []).append(number)
                self._newest = (lot, number)
                return (number, lot)
        return None

    def grow(self, wanted):
        """Grow trees until one has a lot out of a list: its number, or None when there are no more to be grown."""
        grown = self.next_tree()
        while grown is not None:
            number, lot = grown
            if lot in wanted:
                return number
            grown = self.next_tree()
        return None

    def _is_full(self, lot):
        return len(self.held.get(lot, [])) >= self._most

    def _is_needless(self, lot, places):
        """Whether trees of a lot that have so many places would never be held, as there are enough smaller ones."""
        sizes = self._sizes.get(lot, [])
        return len(sizes) == self._most and places >= sizes[-1]

    def _wait(self, node, lot):
        places = 1 + sum([self._grove.places[number] for number in node[1:]])
        if not self._is_needless(lot, places):
            self._sizes[lot] = sorted(self._sizes.get(lot, []) + [places])[:self._most]
            heappush(self._queue, (places, len(self._waiting)))
            self._waiting.append((node, lot))

    def _wait_above(self, newest_lot, newest):
        """Let the trees wait in which the newest tree, of a lot, stands beneath the top."""
        more = self._grove.places[newest] - 1
        for sign, row, pattern, place, lot in self._above.get(newest_lot, []):
            # No brother has less than one place.
            if not self._is_needless(lot, 1 + len(row) + more * pattern.count(place)):
                for brothers in self._brothers(row, pattern, place, newest):
                    self._wait((sign, *brothers), lot)

    def _brothers(self, row, pattern, place, newest):
        """All rows of brothers with the newest tree at one place and with older ones elsewhere."""
        rows = [()]
        for at, first in enumerate(pattern):
            if first < at:
                rows = [(*taken, taken[first]) for taken in rows]
            elif at == place:
                rows = [(*taken, newest) for taken in rows]
            else:
                older = [number for number in self.held.get(row[at], []) if number != newest]
                rows = [(*taken, number) for taken in rows for number in older if number not in taken]
        return rows


def most_needed(many, lots):
    """How many trees of each lot may stand in so many of the smallest ones of a lot, where there are so many lots.

    In g(x, y, y) a small y is worth more than a small x. So the smallest trees
    of one lot may need the next ones beyond the smallest of another lot, which
    may need those beyond in a third lot: one more for each lot there is.
    """
    return many + lots


def smallest_in(grove, field, wanted):
    """The number of a smallest tree that has a lot out of a list, or None if there is none."""
    if wanted == []:
        return None
    return Nursery(grove, field.steps, most_needed(MOST_COUNTED, len(field.counts))).grow(wanted)


def some_trees(grove, field):
    """A dict from lots to the numbers of four small trees, or of all trees if there are fewer."""
    nursery = Nursery(grove, field.steps, MOST_COUNTED)
    nursery.grow([])
    return nursery.held


def smallest_trees(maker, known):
    """A dict from lots to lists of four trees of least sizes, or of all trees if there are fewer."""
    grove = Grove()
    nursery = Nursery(grove, [row[:4] for row in steps_let(maker, known)], most_needed(MOST_COUNTED, len(known)))
    nursery.grow([])
    trees = grove.trees()
    return {lot: [trees[number] for number in nursery.held[lot][:MOST_COUNTED]] for lot in nursery.held}
