"""Walks through trees and frames of signs that were checked before.

They keep lists of what is still to be seen instead of calling themselves:
an object that is to be judged may be deeper than any tree.
"""


def is_top(signs, thing):
    """Whether an object has a sign, and as many objects behind it as stand beneath the sign."""
    if not isinstance(thing, tuple) or len(thing) == 0:
        return False
    sign = thing[0]
    return isinstance(sign, str) and sign in signs and len(thing) == signs[sign] + 1


def is_grown(signs, thing):
    """Whether an object is a tree of the signs."""
    waiting = [thing]
    while waiting:
        tree = waiting.pop()
        if not is_top(signs, tree):
            return False
        waiting.extend(tree[1:])
    return True


def holes_in(signs, thing):
    """In how many places of an object None stands where a tree would; None if there is no tree to be had so."""
    waiting = [thing]
    holes = 0
    while waiting:
        part = waiting.pop()
        if part is None:
            holes += 1
        elif is_top(signs, part):
            waiting.extend(part[1:])
        else:
            return None
    return holes


def places_of(thing):
    """What stands at all places of a tree or a frame, level by level, brothers side by side."""
    places = [thing]
    at = 0
    while at < len(places):
        part = places[at]
        if part is not None:
            places.extend(part[1:])
        at += 1
    return places


def places_of_signs(thing):
    """The number of places of signs in a tree or a frame."""
    return len([part for part in places_of(thing) if part is not None])


def depth_of(tree):
    """How many levels a tree has."""
    level = [tree]
    deep = 0
    while level:
        level = [brother for place in level for brother in place[1:]]
        deep += 1
    return deep
