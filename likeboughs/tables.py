"""Counts of lots, and tables of trees that show them."""

from likeboughs.books import check_book
from likeboughs.fields import least_counts
from likeboughs.groves import nodes_of
from likeboughs.makers import lots_of_nodes, maker_of
from likeboughs.nursery import smallest_trees
from likeboughs.rounds import MOST_COUNTED, made_by, steps_let
from likeboughs.walks import is_grown


def counts(book):
    """The dict from the lots of a book, ascending, to their counts."""
    check_book(book)
    maker = maker_of(book)
    known = least_counts(maker)
    told = {maker.lot(number): known[number] for number in known}
    return {lot: told[lot] for lot in sorted(told)}


def table(book):
    """A table of a book: its lots, ascending, each with trees of least sizes."""
    check_book(book)
    maker = maker_of(book)
    found = smallest_trees(maker, least_counts(maker))
    return sorted([(maker.lot(number), found[number]) for number in found])


def are_apart(trees):
    """Whether all trees of a list are different."""
    return all([trees.index(tree) == at for at, tree in enumerate(trees)])


def lot_shown(maker, thing):
    """The number of the lot of a row of a table, or None if an object is no such row."""
    if not isinstance(thing, tuple) or len(thing) != 2:
        return None
    lot, trees = thing
    if not isinstance(trees, list) or not 1 <= len(trees) <= MOST_COUNTED:
        return None
    if not all([is_grown(maker.brothers, tree) for tree in trees]) or not are_apart(trees):
        return None
    numbers = [lots_of_nodes(maker, nodes_of(tree))[-1] for tree in trees]
    if not all([lot == maker.lot(number) for number in numbers]):
        return None
    return numbers[0]


def counts_shown(maker, thing):
    """The counts that the rows of an object show, or None if they are no rows of different lots."""
    if not isinstance(thing, list):
        return None
    known = {}
    for row in thing:
        number = lot_shown(maker, row)
        if number is None or number in known:
            return None
        known[number] = len(row[1])
    return known


def is_table(book, thing):
    """Whether an object is a table of a book."""
    check_book(book)
    maker = maker_of(book)
    known = counts_shown(maker, thing)
    if known is None:
        return False
    made = made_by(steps_let(maker, known))
    return all([lot in known and (known[lot] == MOST_COUNTED or made[lot] <= known[lot]) for lot in made])
