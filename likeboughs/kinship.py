"""Which lots have different trees that some surrounding parts for a kind.

Whether two different trees are parted hangs only on their lots ([8]). So pairs of
lots stand for pairs of trees: a pair is parted if just one of both lots has the
kind, or if a sign, put upon both trees with the same others beside them, makes
a pair that is parted.
"""

from likeboughs.shapes import pattern_in

# 0 is one tree of a pair, 1 the other one; 2 and 3 are two more trees that may stand beside both.
BESIDE = (
    (), ((),), ((0,), (1,), (2,)),
    ((0, 0), (0, 1), (1, 0), (1, 1), (0, 2), (2, 0), (1, 2), (2, 1), (2, 2), (2, 3)),
)


def contexts_of(brothers):
    """How a pair of trees may stand among so many brothers.

    A context tells of the brothers with one of both trees and of those with the
    other one, each time who they are and their pattern, then how many more trees
    stand beside both.
    """
    found = []
    for others in BESIDE[brothers]:
        for place in range(brothers):
            rows = [(*others[:place], tree, *others[place:]) for tree in (0, 1)]
            more = len([tree for tree in (2, 3) if tree in others])
            found.append((rows[0], pattern_in(rows[0]), rows[1], pattern_in(rows[1]), more))
    return found


class Kinship:
    """The pairs of lots, () among them, whose different trees are parted for a kind."""

    def __init__(self, maker, field, kind):
        self._counts = field.counts
        self._told = {}
        for sign, row, pattern, lot in field.steps:
            self._told.setdefault((row, pattern), {})[sign] = lot
        brothers = sorted({len(row) for _, row, _, _ in field.steps if len(row) > 0})
        self._contexts = [context for many in brothers for context in contexts_of(many)]
        lots = [0, *field.counts]
        self._with_kind = {lot: maker.has(lot, kind) for lot in lots}
        self._parted = {}
        self._find_parted([(one, other) for at, other in enumerate(lots) for one in lots[:at + 1] if other != 0])

    def are_parted(self, one, other):
        """Whether any two different trees of two lots are parted."""
        return (one, other) in self._parted or (other, one) in self._parted

    def _find_parted(self, pairs):
        """Go from pairs of which just one has the kind to all those that lead to them."""
        below = {}
        waiting = []
        for pair in pairs:
            if self._with_kind[pair[0]] != self._with_kind[pair[1]]:
                waiting.append(pair)
            elif pair[0] != pair[1] or self._counts[pair[0]] > 1:
                for upper in self._pairs_above(pair):
                    below.setdefault(upper, []).append(pair)
        while waiting:
            pair = waiting.pop()
            if pair not in self._parted:
                self._parted[pair] = True
                one, other = pair
                waiting.extend(below.get((one, other), []))
                waiting.extend(below.get((other, one), []))

    def _pairs_above(self, pair):
        """The pairs of lots of the trees that a sign makes of a pair of trees of two lots, with others beside them."""
        beside = [[()], self._lots_beside(pair, 1), self._lots_beside(pair, 2)]
        found = {}
        for one, pattern, other, other_pattern, more in self._contexts:
            for lots_beside in beside[more]:
                lots = (*pair, *lots_beside)
                told = self._told.get((tuple([lots[tree] for tree in one]), pattern), {})
                other_told = self._told.get((tuple([lots[tree] for tree in other]), other_pattern), {})
                for sign in [*told, *other_told]:
                    found[(told.get(sign, 0), other_told.get(sign, 0))] = True
        return list(found)

    def _lots_beside(self, pair, more):
        """The rows of lots that so many different trees beside a pair may have."""
        rows = [()]
        for _ in range(more):
            rows = [
                (*row, lot) for row in rows for lot in self._counts
                if self._counts[lot] > pair.count(lot) + row.count(lot)
            ]
        return rows
