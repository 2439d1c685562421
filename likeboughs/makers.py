"""The steps that the rules of a book tell, from lots beneath to the lot of a tree.

A lot may have thousands of kinds and stand beneath thousands of places. So
each lot is given a number when it is first met, 0 being that of (), and some of
the rules are told by an integer, in which the bit of each of them is set: the
rules that make a tree are those that its sign, its asks and each of its
brothers let, and are come to by "and".
"""

from likeboughs.shapes import asks_hold, pattern_in, patterns_that_fit


def places_of_bits(bits):
    """The ascending list of the places of the bits that are set in an integer."""
    found = []
    while bits > 0:
        lowest = bits & -bits
        found.append(lowest.bit_length() - 1)
        bits = bits - lowest
    return found


class Maker:
    """Rules of signs, laid out so that those that make a tree are soon found."""

    def __init__(self, signs, rules):
        self.brothers = signs
        self._kinds_made = [rule[0] for rule in rules]
        self._with_sign = {sign: 0 for sign in signs}
        self._with_asks = {sign: [] for sign in signs}
        self._with_kind = {}
        bit = 1
        for _, sign, kinds, asks in rules:
            self._with_sign[sign] = self._with_sign[sign] | bit
            for place, name in enumerate(kinds):
                key = (sign, place, name)
                self._with_kind[key] = self._with_kind.get(key, 0) | bit
            if asks != ():
                self._with_asks[sign].append((bit, asks))
            bit = bit + bit
        self._lots = [{}]
        self._numbers = {(): 0}
        self._let_by_brother = {}
        self._let_by_pattern = {}
        self._lots_of_bits = {}
        self._steps_told = {}

    def number_of(self, lot):
        """The number of a lot, a new one if it was not met before."""
        if lot not in self._numbers:
            self._numbers[lot] = len(self._lots)
            self._lots.append({kind: True for kind in lot})
        return self._numbers[lot]

    def lot(self, number):
        """The lot with a number."""
        return tuple(self._lots[number])

    def has(self, number, kind):
        """Whether a kind is in the lot with a number."""
        return kind in self._lots[number]

    def told(self, sign, row):
        """The steps of a sign and a row of lots' numbers to lots but (), as pairs of a pattern and a lot's number."""
        key = (sign, row)
        if key not in self._steps_told:
            ready = self.ready(sign, row)
            fits = patterns_that_fit(row) if ready > 0 else []
            steps = [(pattern, self.lot_made(sign, ready, pattern)) for pattern in fits]
            self._steps_told[key] = [pair for pair in steps if pair[1] > 0]
        return self._steps_told[key]

    def step(self, sign, row, pattern):
        """The number of the lot of a tree, from its sign, its brothers' lots' numbers, and their pattern."""
        return self.lot_made(sign, self.ready(sign, row), pattern)

    def makers(self, sign, row, pattern):
        """The ascending list of the indexes of all rules that make such a tree."""
        return places_of_bits(self.ready(sign, row) & self._let_by(sign, pattern))

    def ready(self, sign, row):
        """The bits of the rules with a sign that let each brother have the lot that it has."""
        bits = self._with_sign[sign]
        for place, number in enumerate(row):
            bits = bits & self._let_beneath(sign, place, number)
        return bits

    def lot_made(self, sign, ready, pattern):
        """The number of the lot of a tree whose brothers let the rules that are told by bits."""
        bits = ready & self._let_by(sign, pattern)
        if bits not in self._lots_of_bits:
            kinds = sorted({self._kinds_made[index] for index in places_of_bits(bits)})
            self._lots_of_bits[bits] = self.number_of(tuple(kinds))
        return self._lots_of_bits[bits]

    def _let_beneath(self, sign, place, number):
        key = (sign, place, number)
        if key not in self._let_by_brother:
            bits = 0
            for kind in self._lots[number]:
                bits = bits | self._with_kind.get((sign, place, kind), 0)
            self._let_by_brother[key] = bits
        return self._let_by_brother[key]

    def _let_by(self, sign, pattern):
        key = (sign, pattern)
        if key not in self._let_by_pattern:
            bits = self._with_sign[sign]
            for bit, asks in self._with_asks[sign]:
                if not asks_hold(asks, pattern):
                    bits = bits - bit
            self._let_by_pattern[key] = bits
        return self._let_by_pattern[key]


def maker_of(book):
    """The maker of all rules of a book."""
    return Maker(book.signs, book.rules)


def lots_of_nodes(maker, nodes):
    """The numbers of the lots of trees, told by nodes: signs, and the numbers of the nodes of the brothers."""
    found = []
    for sign, *brothers in nodes:
        row = tuple([found[number] for number in brothers])
        found.append(maker.step(sign, row, pattern_in(brothers)))
    return found
