"""Frames, and surroundings that part two trees for a kind."""

from likeboughs.books import check_book, check_kind
from likeboughs.errors import InvalidFrame
from likeboughs.frames import fill, frame_of_levels, is_frame_of, is_surrounding_of
from likeboughs.groves import Grove
from likeboughs.makers import lots_of_nodes
from likeboughs.parters import Parter
from likeboughs.reach import maker_beneath
from likeboughs.trees import check_signs, check_tree


def is_frame(signs, thing):
    """Whether an object is a frame of the signs."""
    check_signs(signs)
    return is_frame_of(signs, thing)


def filled(signs, frame, tree):
    """The tree that a frame is when it is filled with a tree."""
    check_signs(signs)
    if not is_frame_of(signs, frame):
        raise InvalidFrame("a frame is a tree in which None stands in the place of at least one tree")
    check_tree(signs, tree)
    return fill(frame, tree)


def check_pair(book, kind, one, other):
    """Raise an error unless objects are a book, a kind, and two trees of the book's signs."""
    check_book(book)
    check_kind(kind)
    signs = book.signs
    check_tree(signs, one)
    check_tree(signs, other)


def parter(book, kind, one, other):
    """A tuple of a surrounding that parts two trees for a kind, or None if there is none."""
    check_pair(book, kind, one, other)
    if one == other:
        return None
    search = Parter(maker_beneath(book, kind), kind)
    levels = search.levels(one, other)
    return None if levels is None else (frame_of_levels(search.trees(), levels),)


def is_parter(book, kind, one, other, thing):
    """Whether an object is a surrounding that parts two trees for a kind."""
    check_pair(book, kind, one, other)
    if not is_surrounding_of(book.signs, thing):
        return False
    grove = Grove()
    tops = [grove.put(thing, grove.put(tree)) for tree in [one, other]]
    maker = maker_beneath(book, kind)
    lots = lots_of_nodes(maker, grove.nodes)
    return maker.has(lots[tops[0]], kind) != maker.has(lots[tops[1]], kind)


def are_kin(book, kind, one, other):
    """Whether no surrounding parts two trees for a kind."""
    return parter(book, kind, one, other) is None
