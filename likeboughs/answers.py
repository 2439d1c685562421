"""What a shell answers about books, kinds and trees."""

from likeboughs.beside import holds, parting
from likeboughs.counting import count
from likeboughs.finite import is_finite
from likeboughs.made import least_size
from likeboughs.needless import needless_asks, needless_rules
from likeboughs.plain import needs_asks
from likeboughs.readings import is_of, lot_of
from likeboughs.surroundings import are_kin
from likeboughs.tables import counts
from likeboughs.trees import size


def yes_or_no(is_so):
    """The word for a bool."""
    return "yes" if is_so else "no"


def lot_text(lot):
    """The kinds of a lot with "+" between them."""
    return "-" if lot == () else "+".join(lot)


def answer_of(books, kinds, trees):
    """Whether a tree is of a kind."""
    return yes_or_no(is_of(books[0], kinds[0], trees[0]))


def answer_lot(books, kinds, trees):
    """The lot of a tree."""
    return lot_text(lot_of(books[0], trees[0]))


def answer_counts(books, kinds, things):
    """Each lot with its count."""
    told = counts(books[0])
    return " ".join([lot_text(lot) + "=" + str(told[lot]) for lot in told])


def answer_made(books, kinds, things):
    """The least size of a tree of a kind."""
    least = least_size(books[0], kinds[0])
    return "no" if least is None else str(least)


def answer_end(books, kinds, things):
    """Whether there are finitely many trees of a kind."""
    return yes_or_no(is_finite(books[0], kinds[0]))


def answer_count(books, kinds, sizes):
    """How many trees of a kind have a size."""
    return str(count(books[0], kinds[0], sizes[0]))


def answer_holds(books, kinds, things):
    """Whether each tree of the second kind is of the first one."""
    return yes_or_no(holds(books[0], kinds[0], books[1], kinds[1]))


def answer_alike(books, kinds, things):
    """Whether two kinds have the same trees, or the size of the least tree that is of just one of them."""
    tree = parting(books[0], kinds[0], books[1], kinds[1])
    return "yes" if tree is None else str(size(books[0].signs, tree))


def answer_asks(books, kinds, things):
    """Whether a kind needs asks."""
    return yes_or_no(needs_asks(books[0], kinds[0]))


def answer_kin(books, kinds, trees):
    """Whether nothing parts two trees for a kind."""
    return yes_or_no(are_kin(books[0], kinds[0], trees[0], trees[1]))


def answer_needless(books, kinds, things):
    """The indexes of needless rules, then the needless asks."""
    words = [str(index) for index in needless_rules(books[0], kinds[0])]
    words.extend([str(index) + "." + str(ask) for index, ask in needless_asks(books[0], kinds[0])])
    return "none" if words == [] else " ".join(words)


ANSWERS = {
    "of": answer_of, "lot": answer_lot, "counts": answer_counts, "made": answer_made, "end": answer_end,
    "count": answer_count, "holds": answer_holds, "alike": answer_alike, "asks": answer_asks, "kin": answer_kin,
    "needless": answer_needless,
}
