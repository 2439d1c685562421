"""Walks through trees of signs that were checked before.

They keep lists of what is still to be seen instead of calling themselves:
an object that is to be judged may be deeper than any tree.
"""


def is_top(signs, thing):
    """Whether an object has a sign, and as many objects behind it as stand beneath the sign."""
    if not isinstance(thing, tuple) or len(thing) == 0:
        return False
    sign = thing[0]
    return isinstance(sign, str) and sign in signs and len(thing) == signs[sign] + 1


def is_grown(signs, thing):
    """Whether an object is a tree of the signs."""
    waiting = [thing]
    while waiting:
        tree = waiting.pop()
        if not is_top(signs, tree):
            return False
        waiting.extend(tree[1:])
    return True


def places_of(tree):
    """The trees at all places of a tree, level by level, brothers side by side."""
    places = [tree]
    at = 0
    while at < len(places):
        tree_there = places[at]
        places.extend(tree_there[1:])
        at += 1
    return places


def depth_of(tree):
    """How many levels a tree has."""
    level = [tree]
    deep = 0
    while level:
        level = [brother for place in level for brother in place[1:]]
        deep += 1
    return deep


def numbered_parts(tree):
    """The different parts of a tree as rows (node, part), brothers ahead of what they are beneath.

    A node is a tuple of the part's sign and of the numbers of its brothers'
    rows. Equal parts are found by their nodes: a tree itself may be too deep
    for the key of a dict.
    """
    places = places_of(tree)
    numbers = [0] * len(places)
    known = {}
    rows = []
    # Each place's brothers end where those of the next place begin.
    first = len(places)
    for at in reversed(range(len(places))):
        part = places[at]
        end = first
        first = end - len(part) + 1
        node = (part[0], *numbers[first:end])
        if node not in known:
            known[node] = len(rows)
            rows.append((node, part))
        numbers[at] = known[node]
    return rows


def nodes_of(tree):
    """The nodes of the different parts of a tree, the tree's own one last."""
    return [row[0] for row in numbered_parts(tree)]


def sized_parts(tree):
    """The different parts of a tree as rows (size, part), brothers ahead of what they are beneath."""
    rows = []
    for (_, *brothers), part in numbered_parts(tree):
        rows.append((1 + sum([rows[number][0] for number in brothers]), part))
    return rows
