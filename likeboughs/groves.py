"""Trees that are told by numbers, so that equal ones are soon found and great ones are quickly made."""

from likeboughs.walks import places_of


class Grove:
    """Different trees, each told by its node: its sign, and the numbers of its brothers.

    Brothers stand ahead of what they are beneath. Nodes serve as keys where a
    tree cannot: it may be too deep.
    """

    def __init__(self):
        self.nodes = []
        self.sizes = []
        self._numbers = {}

    def plant(self, node):
        """The number of the tree of a node, a new one if there is none yet."""
        if node not in self._numbers:
            self._numbers[node] = len(self.nodes)
            self.nodes.append(node)
            self.sizes.append(1 + sum([self.sizes[number] for number in node[1:]]))
        return self._numbers[node]

    def put(self, thing, hole=None):
        """The number of a tree, or of a frame that is filled with the tree with the number told as hole."""
        places = places_of(thing)
        numbers = [hole] * len(places)
        # Each place's brothers end where those of the next place begin.
        first = len(places)
        for at in reversed(range(len(places))):
            if places[at] is not None:
                end = first
                first = end - len(places[at]) + 1
                numbers[at] = self.plant((places[at][0], *numbers[first:end]))
        return numbers[0]

    def trees(self):
        """The list of all trees, by their numbers."""
        made = []
        for sign, *brothers in self.nodes:
            made.append((sign, *[made[number] for number in brothers]))
        return made


def nodes_of(tree):
    """The nodes of the different parts of a tree, the tree's own one last."""
    grove = Grove()
    grove.put(tree)
    return grove.nodes
