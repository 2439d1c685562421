"""Which additions to the rules of a book bar a tree from being of a kind.

Of each part of the tree and each kind it is told for all choices of additions at
once whether the part is of the kind: by an integer that has a bit for each
choice. A choice is told by an integer, too, in which the bit of each addition
that is taken is set.
"""

from likeboughs.groves import nodes_of
from likeboughs.makers import lots_of_nodes, maker_of
from likeboughs.shapes import pattern_in


def additions_against(index, rule, pattern):
    """The additions to a rule whose asks do not hold of brothers with a pattern."""
    asked = [ask[:2] for ask in rule[3]]
    pairs = [(first, second) for second in range(len(pattern)) for first in range(second)]
    return [(index, (*pair, pattern[pair[0]] != pattern[pair[1]])) for pair in pairs if pair not in asked]


class Barring:
    """The additions that bar a rule somewhere in a tree; additions is the ascending list of them."""

    def __init__(self, book, tree):
        self._rules = book.rules
        self._maker = maker_of(book)
        self._nodes = nodes_of(tree)
        self._lots = lots_of_nodes(self._maker, self._nodes)
        self._makers = {}
        for node in self._nodes:
            self._look_at(self._step_of(node))
        told = {addition: True for rows in list(self._makers.values()) for _, against in rows for addition in against}
        self.additions = sorted(told)

    def _step_of(self, node):
        sign, *brothers = node
        return (sign, tuple([self._lots[brother] for brother in brothers]), pattern_in(brothers))

    def _look_at(self, step):
        """Note which rules make a tree by a step, each with the additions that bar it there."""
        if step not in self._makers:
            sign, row, pattern = step
            self._makers[step] = [
                (index, additions_against(index, self._rules[index], pattern))
                for index in self._maker.makers(sign, row, pattern)
            ]

    def least_lists(self, kind):
        """The lists of additions, none of them needless, with which the tree is not of a kind.

        They may ask both that two brothers are the same and that they are not.
        """
        let = self._choices_let(kind)
        bits = [1 << at for at in range(len(self.additions))]
        found = []
        for choice in range(1 << len(bits)):
            taken = [at for at, bit in enumerate(bits) if choice & bit]
            if not let >> choice & 1 and all([let >> (choice - bits[at]) & 1 for at in taken]):
                found.append([self.additions[at] for at in taken])
        return found

    def _choices_let(self, kind):
        """The choices with which the tree is of a kind, as bits."""
        let_by_step = self._let_by_step()
        told = []
        for node in self._nodes:
            let = {}
            for index, bits in let_by_step[self._step_of(node)]:
                made, _, kinds, _ = self._rules[index]
                for brother, name in zip(node[1:], kinds):
                    bits = bits & told[brother][name]
                let[made] = let.get(made, 0) | bits
            told.append(let)
        return told[-1][kind]

    def _let_by_step(self):
        """For each step the rules that make trees by it, each with the choices that do not bar it, as bits."""
        choices = range(1 << len(self.additions))
        every = (1 << len(choices)) - 1
        without = {
            addition: sum([1 << choice for choice in choices if not choice >> at & 1])
            for at, addition in enumerate(self.additions)
        }
        let = {}
        for step in self._makers:
            rows = []
            for index, against in self._makers[step]:
                bits = every
                for addition in against:
                    bits = bits & without[addition]
                rows.append((index, bits))
            let[step] = rows
        return let
