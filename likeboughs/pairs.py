"""Kinds of two books beside each other."""

from likeboughs.books import check_book, check_kind
from likeboughs.errors import InvalidMatch
from likeboughs.reach import maker_beneath
from likeboughs.shapes import patterns_that_fit


def check_beside(one, kind, other, other_kind):
    """Raise an error unless objects are two books of the same signs, each with a kind."""
    check_book(one)
    check_kind(kind)
    check_book(other)
    check_kind(other_kind)
    if one.signs != other.signs:
        raise InvalidMatch("the signs of the two books are unlike")


class Pair:
    """Two makers of the same signs, each with a kind, as one maker.

    A lot of it stands for a pair of lots, one of each maker; its number is 0 if
    both are (), so that a field can be made of it.
    """

    def __init__(self, one, kind, other, other_kind):
        self.brothers = one.brothers
        self._one = one
        self._kind = kind
        self._other = other
        self._other_kind = other_kind
        self._pairs = [(0, 0)]
        self._numbers = {(0, 0): 0}
        self._steps_told = {}

    def told(self, sign, row):
        """The steps of a sign and a row of lots' numbers to lots but 0, as pairs of a pattern and a lot's number."""
        key = (sign, row)
        if key not in self._steps_told:
            ready = self._one.ready(sign, tuple([self._pairs[number][0] for number in row]))
            other_ready = self._other.ready(sign, tuple([self._pairs[number][1] for number in row]))
            fits = patterns_that_fit(row) if ready > 0 or other_ready > 0 else []
            steps = [(pattern, self._lot_made(sign, ready, other_ready, pattern)) for pattern in fits]
            self._steps_told[key] = [pair for pair in steps if pair[1] > 0]
        return self._steps_told[key]

    def step(self, sign, row, pattern):
        """The number of the lot of a tree, from its sign, its brothers' lots' numbers, and their pattern."""
        return dict(self.told(sign, row)).get(pattern, 0)

    def _lot_made(self, sign, ready, other_ready, pattern):
        pair = (self._one.lot_made(sign, ready, pattern), self._other.lot_made(sign, other_ready, pattern))
        if pair not in self._numbers:
            self._numbers[pair] = len(self._pairs)
            self._pairs.append(pair)
        return self._numbers[pair]

    def has_one(self, number):
        """Whether trees of a lot are of the first kind."""
        return self._one.has(self._pairs[number][0], self._kind)

    def has_other(self, number):
        """Whether trees of a lot are of the other kind."""
        return self._other.has(self._pairs[number][1], self._other_kind)

    def are_apart(self, number):
        """Whether trees of a lot are of just one of both kinds."""
        return self.has_one(number) != self.has_other(number)


def pair_of(one, kind, other, other_kind):
    """The kinds of two books of the same signs as a pair, with the rules that they hang on."""
    return Pair(maker_beneath(one, kind), kind, maker_beneath(other, other_kind), other_kind)
