"""Whether a kind is made at all, and by how small a tree."""

from likeboughs.books import check_book, check_kind
from likeboughs.fields import Field
from likeboughs.groves import Grove
from likeboughs.nursery import smallest_in
from likeboughs.reach import maker_beneath


def smallest_of(grove, book, kind):
    """The number in a grove of a smallest tree of a kind, or None if there is none."""
    maker = maker_beneath(book, kind)
    field = Field(maker)
    return smallest_in(grove, field, [lot for lot in field.counts if maker.has(lot, kind)])


def is_made(book, kind):
    """Whether there is a tree of a kind."""
    check_book(book)
    check_kind(kind)
    maker = maker_beneath(book, kind)
    return any([maker.has(lot, kind) for lot in Field(maker).counts])


def least_size(book, kind):
    """The least size of a tree of a kind, or None if there is none."""
    check_book(book)
    check_kind(kind)
    grove = Grove()
    number = smallest_of(grove, book, kind)
    return None if number is None else grove.places[number]


def least(book, kind):
    """A tree of a kind of least size, or None if there is none."""
    check_book(book)
    check_kind(kind)
    grove = Grove()
    number = smallest_of(grove, book, kind)
    return None if number is None else grove.trees()[number]
