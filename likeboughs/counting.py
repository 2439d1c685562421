"""Numbers of trees of a kind, and their places in the order of trees."""

from likeboughs.books import check_book, check_kind
from likeboughs.census import Census
from likeboughs.errors import InvalidNumber, InvalidTree, TooMany
from likeboughs.reach import maker_beneath
from likeboughs.readings import is_of
from likeboughs.trees import MOST_SIZE, MOST_TREES, check_tree
from likeboughs.walks import places_of
from likeboughs.words import is_between


def check_size(size):
    """Raise InvalidNumber unless an object is a size for which trees are counted."""
    if not is_between(size, 1, MOST_SIZE):
        raise InvalidNumber("a size is an integer from 1 to 40")


def trees_listed(census, kind, size):
    """The ascending list of the trees of a kind that have a size, if there are at most a thousand."""
    if census.how_many(kind, size) > MOST_TREES:
        raise TooMany("there are more than a thousand trees of this kind and size")
    return census.trees(kind, size)


def count(book, kind, size):
    """How many trees of a kind have a size."""
    check_book(book)
    check_kind(kind)
    check_size(size)
    return Census(maker_beneath(book, kind), size).how_many(kind, size)


def listed(book, kind, size):
    """The ascending list of the trees of a kind that have a size."""
    check_book(book)
    check_kind(kind)
    check_size(size)
    return trees_listed(Census(maker_beneath(book, kind), size), kind, size)


def tree_at(book, kind, size, index):
    """The tree with an index in the list of the trees of a kind that have a size."""
    check_book(book)
    check_kind(kind)
    check_size(size)
    census = Census(maker_beneath(book, kind), size)
    if not is_between(index, 0, census.how_many(kind, size) - 1):
        raise InvalidNumber("there is no tree with this index")
    return trees_listed(census, kind, size)[index]


def place_of(book, kind, tree):
    """The index of a tree in the list of the trees of a kind that have its size."""
    check_book(book)
    check_kind(kind)
    check_tree(book.signs, tree)
    size = len(places_of(tree))
    if size > MOST_SIZE or not is_of(book, kind, tree):
        raise InvalidTree("the tree has more than forty places, or is not of the kind")
    return trees_listed(Census(maker_beneath(book, kind), size), kind, size).index(tree)
