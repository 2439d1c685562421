"""Books without asks that make just the trees of a kind, where there are such books.

Trees that no surrounding parts are as good as each other. So a kind of such a
book stands for all trees of some lots of which no two are parted, or, where two
of a lot's finitely many trees are parted, for some of these trees.
"""

from likeboughs.books import Book
from likeboughs.makers import lots_of_nodes
from likeboughs.shapes import patterns_that_fit
from likeboughs.splitting import asks_telling, rows_asked
from likeboughs.words import name_at


def blocks_of(kinship, lots):
    """A dict from lots to the first one of those as good as they are, but for those from which no tree has the kind."""
    blocks = {}
    for lot in lots:
        if kinship.are_parted(0, lot):
            kin = [other for other in blocks if not kinship.are_parted(other, lot)]
            blocks[lot] = blocks[kin[0]] if kin != [] else lot
    return blocks


class Unasked:
    """The rules without asks for the trees of blocks of lots.

    held is a dict from those lots whose trees are told apart to the numbers of
    their trees in a grove. A kind is told by a block and by bits: of the trees
    held, or 1 where none are told apart.
    """

    def __init__(self, maker, field, kinship, grove, held):
        self.blocks = blocks_of(kinship, list(field.counts))
        self._signs = maker.brothers
        self._held = held
        self._nodes = grove.nodes
        self._lots = lots_of_nodes(maker, grove.nodes)
        self._places = {number: at for lot in held for at, number in enumerate(held[lot])}
        self._forms = {}
        for sign, row, pattern, lot in field.steps:
            if lot in self.blocks:
                blocks = tuple([self.blocks[lower] for lower in row])
                told = self._forms.setdefault((sign, blocks), {})
                told[self._told_apart(blocks, pattern)] = self.blocks[lot]
        self._names = {}
        self._waiting = []
        self._rules = {}

    def book_of(self, wanted):
        """A tuple of a book and of the kind of it whose trees are those of a list of blocks."""
        if len(wanted) == 1:
            kind = self._name(wanted[0], self._every(wanted[0]))
        else:
            kind = name_at(0)
            self._names[()] = kind
            self._tell_blocks(kind, wanted)
        while self._waiting:
            block, bits = self._waiting.pop()
            name = self._name(block, bits)
            if bits == self._every(block):
                self._tell_blocks(name, [block])
            else:
                self._tell_trees(name, block, bits)
        return (Book(self._signs, list(self._rules)), kind)

    def _many(self, block):
        return len(self._held.get(block, [0]))

    def _every(self, block):
        return (1 << self._many(block)) - 1

    def _name(self, block, bits):
        """The name of a kind; if it is new, its rules are yet to be told."""
        if (block, bits) not in self._names:
            self._names[(block, bits)] = name_at(len(self._names))
            self._waiting.append((block, bits))
        return self._names[(block, bits)]

    def _told_apart(self, row, pattern):
        """A pattern of brothers out of blocks in which none are the same but those of trees that are told apart."""
        return tuple([first if row[at] in self._held else at for at, first in enumerate(pattern)])

    def _patterns(self, row):
        """All such patterns of brothers out of a row of blocks."""
        alike = tuple([block if block in self._held else -1 - at for at, block in enumerate(row)])
        return [pattern for pattern in patterns_that_fit(alike) if self._is_let(alike, pattern)]

    def _is_let(self, alike, pattern):
        """Whether there are as many trees of each block as a pattern has at its places."""
        return all([
            len({first for first, other in zip(pattern, alike) if other == block}) <= self._many(block)
            for block in alike
        ])

    def _tell_blocks(self, name, wanted):
        """Add rules of a kind for all trees of some blocks."""
        for sign, row in self._forms:
            told = self._forms[(sign, row)]
            let = [pattern for pattern in told if told[pattern] in wanted]
            for asks in asks_telling(self._patterns(row), let):
                for bits in rows_asked([self._many(block) for block in row], asks):
                    kinds = tuple([self._name(block, some) for block, some in zip(row, bits)])
                    self._rules[(name, sign, kinds, ())] = True

    def _tell_trees(self, name, block, bits):
        """Add rules of a kind for some trees of a block, each by its brothers alone."""
        for at, number in enumerate(self._held[block]):
            if bits >> at & 1:
                sign, *brothers = self._nodes[number]
                kinds = tuple([self._kind_alone(brother) for brother in brothers])
                self._rules[(name, sign, kinds, ())] = True

    def _kind_alone(self, number):
        """The kind of a single tree that stands beneath one that is told apart: none other is as good as it is."""
        return self._name(self.blocks[self._lots[number]], 1 << self._places.get(number, 0))
