"""Walks through trees of signs that were checked before.

They keep lists of what is still to be seen instead of calling themselves:
an object that is to be judged may be deeper than any tree.
"""


def is_top(signs, thing):
    """Whether an object has a sign, and as many objects behind it as stand beneath the sign."""
    if not isinstance(thing, tuple) or len(thing) == 0:
        return False
    sign = thing[0]
    return isinstance(sign, str) and sign in signs and len(thing) == signs[sign] + 1


def is_grown(signs, thing):
    """Whether an object is a tree of the signs."""
    waiting = [thing]
    while waiting:
        tree = waiting.pop()
        if not is_top(signs, tree):
            return False
        waiting.extend(tree[1:])
    return True


def places_of(tree):
    """The trees at all places of a tree, level by level, brothers side by side."""
    places = [tree]
    at = 0
    while at < len(places):
        tree_there = places[at]
        places.extend(tree_there[1:])
        at += 1
    return places


def depth_of(tree):
    """How many levels a tree has."""
    level = [tree]
    deep = 0
    while level:
        level = [brother for place in level for brother in place[1:]]
        deep += 1
    return deep


def sized_parts(tree):
    """The different parts of a tree as rows (size, part), brothers ahead of what they are beneath.

    Equal parts are found by their signs and the numbers of their brothers:
    a tree itself may be too deep for the key of a dict.
    """
    places = places_of(tree)
    numbers = [0] * len(places)
    known = {}
    rows = []
    # Each place's brothers end where those of the next place begin.
    first = len(places)
    for at in reversed(range(len(places))):
        part = places[at]
        end = first
        first = end - len(part) + 1
        brothers = numbers[first:end]
        key = (part[0], *brothers)
        if key not in known:
            known[key] = len(rows)
            rows.append((1 + sum([rows[number][0] for number in brothers]), part))
        numbers[at] = known[key]
    return rows
