"""Surroundings that part two trees: just one of both, filled in, is of a kind.

Whether there is one hangs only on the lots of both trees ([8]). So each pair of
lots is looked at once, those of smaller surroundings first.
"""

from heapq import heappop, heappush

from likeboughs.fields import Field
from likeboughs.groves import Grove
from likeboughs.makers import lots_of_nodes
from likeboughs.nursery import some_trees
from likeboughs.rows import rows_out_of
from likeboughs.shapes import pattern_in


class Parter:
    """The search for a surrounding that parts two different trees for a kind."""

    def __init__(self, maker, kind):
        self._maker = maker
        self._kind = kind
        self._grove = Grove()
        self._lots = {}
        self._held = []
        self._queue = []
        self._waiting = []
        # No surrounding parts trees that are of no kind, so that their pair need not be looked at.
        self._seen = {(0, 0): True}

    def levels(self, one, other):
        """The levels of a surrounding, the innermost one first, as tuples (sign, brothers); None if there is none.

        brothers are the numbers of trees, None for what is beneath.
        """
        pair = (self._grove.put(one), self._grove.put(other))
        self._lots = {at: lot for at, lot in enumerate(lots_of_nodes(self._maker, self._grove.nodes))}
        if self._is_parted(pair):
            return []
        self._hold_trees()
        self._wait(0, pair, [])
        while self._queue:
            _, at = heappop(self._queue)
            places, pair, levels = self._waiting[at]
            if self._is_parted(pair):
                return levels
            if self._lots_of(pair) not in self._seen:
                self._seen[self._lots_of(pair)] = True
                self._rise(places, pair, levels)
        return None

    def trees(self):
        """The list of all trees by their numbers."""
        return self._grove.trees()

    def _hold_trees(self):
        """Make some trees of each lot, to stand beside those that are to be parted."""
        held = some_trees(self._grove, Field(self._maker))
        self._held = list(held.values())
        for lot in held:
            for number in held[lot]:
                self._lots[number] = lot

    def _lots_of(self, numbers):
        return tuple([self._lots[number] for number in numbers])

    def _is_parted(self, pair):
        lots = self._lots_of(pair)
        return self._maker.has(lots[0], self._kind) != self._maker.has(lots[1], self._kind)

    def _wait(self, places, pair, levels):
        heappush(self._queue, (places, len(self._waiting)))
        self._waiting.append((places, pair, levels))

    def _rise(self, places, pair, levels):
        """Let all surroundings wait that have one level more than one that makes a pair of trees."""
        rows = self._rows_beside(pair)
        for sign in self._maker.brothers:
            many = self._maker.brothers[sign]
            for place in range(many):
                for row in rows[many - 1]:
                    upper = self._pair_above(sign, row, place, pair)
                    if self._lots_of(upper) not in self._seen:
                        more = places + 1 + sum([self._grove.places[number] for number in row])
                        brothers = (*row[:place], None, *row[place:])
                        self._wait(more, upper, levels + [(sign, brothers)])

    def _rows_beside(self, pair):
        """Rows of no, one and two brothers for a pair of trees: one of the pair, or other trees, some of each lot."""
        fresh = [[number for number in numbers if number not in pair] for numbers in self._held]
        ones = [*pair, *[numbers[0] for numbers in fresh if len(numbers) > 0]]
        twos = rows_out_of([ones, ones]) + [(numbers[0], numbers[1]) for numbers in fresh if len(numbers) > 1]
        return [[()], [(number,) for number in ones], twos]

    def _pair_above(self, sign, row, place, pair):
        """The pair of trees that a sign makes of each tree of a pair at a place and of a row of others."""
        upper = []
        for number in pair:
            brothers = (*row[:place], number, *row[place:])
            lot = self._maker.step(sign, self._lots_of(brothers), pattern_in(brothers))
            made = self._grove.plant((sign, *brothers))
            self._lots[made] = lot
            upper.append(made)
        return tuple(upper)
