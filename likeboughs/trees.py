"""Signs, the trees that are made of them, and the order of trees."""

from likeboughs.errors import InvalidNumber, InvalidSigns, InvalidTree, TooMany
from likeboughs.groves import Grove
from likeboughs.growth import grown, row_counts
from likeboughs.walks import depth_of, is_grown, places_of
from likeboughs.words import is_between, is_name

MOST_SIGNS = 8
MOST_BROTHERS = 3
MOST_SIZE = 40
MOST_TREES = 1000


def is_signs(thing):
    """Whether an object is a dict from one to eight names to integers from 0 to 3."""
    if not isinstance(thing, dict) or not 1 <= len(thing) <= MOST_SIGNS:
        return False
    return all([is_name(sign) and is_between(thing[sign], 0, MOST_BROTHERS) for sign in thing])


def check_signs(signs):
    """Raise InvalidSigns unless an object is signs."""
    if not is_signs(signs):
        raise InvalidSigns("signs are a dict from one to eight names to integers from 0 to 3")


def check_tree(signs, tree):
    """Raise InvalidTree unless an object is a tree of signs that were checked before."""
    if not is_grown(signs, tree):
        raise InvalidTree("a tree is a tuple of a sign and of as many trees as stand beneath it")


def is_tree(signs, thing):
    """Whether an object is a tree of the signs."""
    check_signs(signs)
    return is_grown(signs, thing)


def size(signs, tree):
    """The number of places of signs in a tree."""
    check_signs(signs)
    check_tree(signs, tree)
    return len(places_of(tree))


def depth(signs, tree):
    """1, or one more than the greatest depth of the brothers."""
    check_signs(signs)
    check_tree(signs, tree)
    return depth_of(tree)


def parts(signs, tree):
    """The ascending list of the different trees that stand in a tree, itself, too."""
    check_signs(signs)
    check_tree(signs, tree)
    grove = Grove()
    grove.put(tree)
    return [row[1] for row in sorted(list(zip(grove.places, grove.trees())))]


def is_less(signs, one, other):
    """Whether a tree is smaller than another one, or comes ahead of it among those of its size."""
    check_signs(signs)
    check_tree(signs, one)
    check_tree(signs, other)
    return (len(places_of(one)), one) < (len(places_of(other)), other)


def trees_of_size(signs, size):
    """The ascending list of all trees of a size, if there are at most a thousand."""
    check_signs(signs)
    if not is_between(size, 1, MOST_SIZE):
        raise InvalidNumber("a size is an integer from 1 to 40")
    counts = row_counts(signs, size)
    if counts[1][size] > MOST_TREES:
        raise TooMany("there are more than a thousand trees of this size")
    return sorted(grown(signs, counts, size, {}))
