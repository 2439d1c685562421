"""Kinds joined: books for the trees of one of two kinds, of both, of one alone, and of none."""

from likeboughs.books import check_book, check_kind
from likeboughs.fields import Field, count_of_none
from likeboughs.lotbooks import book_of_lots
from likeboughs.pairs import check_beside, pair_of
from likeboughs.reach import maker_beneath


def joined(one, kind, other, other_kind):
    """A tuple (book, kind) whose trees are those that are of one of two kinds."""
    check_beside(one, kind, other, other_kind)
    pair = pair_of(one, kind, other, other_kind)
    counts = Field(pair).counts
    return book_of_lots(pair, counts, [lot for lot in counts if pair.has_one(lot) or pair.has_other(lot)])


def common(one, kind, other, other_kind):
    """A tuple (book, kind) whose trees are those that are of both of two kinds."""
    check_beside(one, kind, other, other_kind)
    pair = pair_of(one, kind, other, other_kind)
    counts = Field(pair).counts
    return book_of_lots(pair, counts, [lot for lot in counts if pair.has_one(lot) and pair.has_other(lot)])


def without(one, kind, other, other_kind):
    """A tuple (book, kind) whose trees are those that are of the first one of two kinds, and not of the other one."""
    check_beside(one, kind, other, other_kind)
    pair = pair_of(one, kind, other, other_kind)
    counts = Field(pair).counts
    return book_of_lots(pair, counts, [lot for lot in counts if pair.has_one(lot) and not pair.has_other(lot)])


def opposite(book, kind):
    """A tuple (book, kind) whose trees are all that are not of a kind."""
    check_book(book)
    check_kind(kind)
    maker = maker_beneath(book, kind)
    counts = Field(maker).counts
    wanted = [lot for lot in counts if not maker.has(lot, kind)]
    return book_of_lots(maker, counts, [0, *wanted] if count_of_none(maker, counts) > 0 else wanted)
