"""Whether one kind holds all trees of another one, and by which tree they differ."""

from likeboughs.fields import Field
from likeboughs.groves import Grove
from likeboughs.nursery import smallest_in
from likeboughs.pairs import check_beside, pair_of


def holds(one, kind, other, other_kind):
    """Whether each tree of a kind of the other book is of the kind of the first one."""
    check_beside(one, kind, other, other_kind)
    pair = pair_of(one, kind, other, other_kind)
    return not any([pair.has_other(lot) and not pair.has_one(lot) for lot in Field(pair).counts])


def parting(one, kind, other, other_kind):
    """A tree of least size that is of just one of two kinds, or None if there is none."""
    check_beside(one, kind, other, other_kind)
    pair = pair_of(one, kind, other, other_kind)
    field = Field(pair)
    grove = Grove()
    number = smallest_in(grove, field, [lot for lot in field.counts if pair.are_apart(lot)])
    return None if number is None else grove.trees()[number]


def are_alike(one, kind, other, other_kind):
    """Whether no tree is of just one of two kinds."""
    check_beside(one, kind, other, other_kind)
    pair = pair_of(one, kind, other, other_kind)
    return not any([pair.are_apart(lot) for lot in Field(pair).counts])
