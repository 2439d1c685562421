"""Trees that are told by numbers, so that equal ones are soon found and great ones are quickly made."""

from likeboughs.walks import places_of


class Grove:
    """Different trees, each told by its node: its sign, and the numbers of its brothers.

    Brothers stand ahead of what they are beneath. Nodes serve as keys where a
    tree cannot: it may be too deep. places has the size of each tree.
    """

    def __init__(self):
        self.nodes = []
        self.places = []
        self._numbers = {}

    def plant(self, node):
        """The number of the tree of a node, a new one if there is none yet."""
        if node not in self._numbers:
            self._numbers[node] = len(self.nodes)
            self.nodes.append(node)
            self.places.append(1 + sum([self.places[number] for number in node[1:]]))
        return self._numbers[node]

    def plant_all(self, rows):
        """The numbers of the trees of a list of nodes. As plant, but without a call for each of them."""
        numbers, places = self._numbers, self.places
        found = []
        for node in rows:
            number = numbers.get(node)
            if number is None:
                number = len(places)
                numbers[node] = number
                self.nodes.append(node)
                size = 1
                for brother in node[1:]:
                    size += places[brother]
                places.append(size)
            found.append(number)
        return found

    def put(self, thing, hole=None):
        """The number of a tree, or of a frame that is filled with the tree with the number told as hole."""
        places = places_of(thing)
        numbers = [hole] * len(places)
        # Each place's brothers end where those of the next place begin.
        first = len(places)
        for at in reversed(range(len(places))):
            if places[at] is not None:
                end = first
                first = end - len(places[at]) + 1
                numbers[at] = self.plant((places[at][0], *numbers[first:end]))
        return numbers[0]

    def trees(self):
        """The list of all trees, by their numbers."""
        made = []
        for node in self.nodes:
            # Most trees have two brothers: they are made without a list on the way.
            if len(node) == 3:
                made.append((node[0], made[node[1]], made[node[2]]))
            else:
                made.append((node[0], *[made[number] for number in node[1:]]))
        return made


def nodes_of(tree):
    """The nodes of the different parts of a tree, the tree's own one last."""
    grove = Grove()
    grove.put(tree)
    return grove.nodes
