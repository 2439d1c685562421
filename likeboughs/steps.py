"""Steps: the lot that a sign, the lots of the brothers and their pattern tell."""

from likeboughs.books import check_book
from likeboughs.errors import InvalidLots, InvalidNumber, InvalidPattern, InvalidTrees, UnknownSign
from likeboughs.makers import maker_of
from likeboughs.shapes import all_patterns, is_fit, is_pattern, pattern_in
from likeboughs.trees import MOST_BROTHERS, check_signs
from likeboughs.walks import is_grown
from likeboughs.words import is_between


def patterns(many):
    """The ascending list of all patterns of so many brothers."""
    if not is_between(many, 0, MOST_BROTHERS):
        raise InvalidNumber("a number of brothers is an integer from 0 to 3")
    return all_patterns(many)


def pattern_of(signs, trees):
    """The pattern of a list of at most three trees."""
    check_signs(signs)
    if not isinstance(trees, list) or len(trees) > MOST_BROTHERS:
        raise InvalidTrees("the trees are a list of at most three")
    if not all([is_grown(signs, tree) for tree in trees]):
        raise InvalidTrees("each tree is a tuple of a sign and of as many trees as stand beneath it")
    return pattern_in(trees)


def is_lot(known, thing):
    """Whether an object is an ascending tuple of different kinds out of a dict of them."""
    if not isinstance(thing, tuple) or not all([isinstance(kind, str) and kind in known for kind in thing]):
        return False
    return all([thing[at] < thing[at + 1] for at in range(len(thing) - 1)])


def are_lots(book, brothers, thing):
    """Whether an object is a tuple of a lot of kinds of a book for each of so many brothers."""
    if not isinstance(thing, tuple) or len(thing) != brothers:
        return False
    known = {kind: True for kind in book.kinds}
    return all([is_lot(known, lot) for lot in thing])


def step(book, sign, lots, pattern):
    """The lot of a tree with a sign whose brothers have these lots and this pattern."""
    check_book(book)
    brothers = book.signs
    if not isinstance(sign, str) or sign not in brothers:
        raise UnknownSign("the sign is none of the book's")
    if not are_lots(book, brothers[sign], lots):
        raise InvalidLots("lots are a tuple of ascending tuples of kinds of the book, one for each brother")
    if not is_pattern(brothers[sign], pattern) or not is_fit(lots, pattern):
        raise InvalidPattern("a pattern has for each brother the first place with the same tree, so the same lot")
    maker = maker_of(book)
    row = tuple([maker.number_of(lot) for lot in lots])
    return maker.lot(maker.step(sign, row, pattern))
