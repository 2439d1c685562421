"""Rules without asks: whether they do as well, and trees that show that they do not."""

from likeboughs.books import check_book, check_kind
from likeboughs.endings import ended_lots, numbers_of_trees, steps_to, trees_of_lots
from likeboughs.errors import InvalidNumber, PlainKind, TooMany
from likeboughs.fields import Field
from likeboughs.groves import Grove
from likeboughs.kinship import Kinship
from likeboughs.lotbooks import kept_book
from likeboughs.makers import Maker, lots_of_nodes, maker_of
from likeboughs.nursery import Nursery, most_needed
from likeboughs.reach import rules_beneath
from likeboughs.unasked import Unasked
from likeboughs.walks import is_grown
from likeboughs.words import is_between

MOST_TOLD_APART = 40
MOST_PARTED = 6


class Kin:
    """The lots that the trees of a kind hang on, and which of them have two trees that are parted for it."""

    def __init__(self, signs, rules, kind):
        self.maker = Maker(signs, rules)
        self.field = Field(self.maker)
        self.kinship = Kinship(self.maker, self.field, kind)
        self.ended = {lot: True for lot in ended_lots(self.field)}
        self.parted = [lot for lot in self.field.counts if self.kinship.are_parted(lot, lot)]

    def needs_asks(self):
        """Whether two trees of a lot with no end of trees are parted."""
        return not all([lot in self.ended for lot in self.parted])


def kin_of(book, kind):
    """What there is to be known of a kind to tell whether it needs asks; None if none of its rules asks."""
    rules = rules_beneath(book, kind)
    if all([rule[3] == () for rule in rules]):
        return None
    return Kin(book.signs, rules, kind)


def needs_asks(book, kind):
    """Whether no book without asks has a kind with just the trees of a kind."""
    check_book(book)
    check_kind(kind)
    kin = kin_of(book, kind)
    return kin is not None and kin.needs_asks()


def number_parted(field, is_parted):
    """How many trees lots of a field have together that have finitely many, two of them parted."""
    ended = ended_lots(field)
    many = numbers_of_trees(steps_to(field, ended), ended)
    return sum([many[lot] for lot in ended if many[lot] > 1 and is_parted[lot]])


def are_too_many(book, kind, kin):
    """Whether the lots of a book with finitely many trees of which two are parted have too many of them.

    The lots that the kind hangs on may have more, as other kinds tell trees of
    one of these apart.
    """
    is_parted = {lot: lot in kin.parted for lot in kin.field.counts}
    if number_parted(kin.field, is_parted) <= MOST_TOLD_APART:
        return False
    maker = maker_of(book)
    field = Field(maker)
    parted_lots = [kin.maker.lot(lot) for lot in kin.parted]
    kinds = {rule[0]: True for rule in rules_beneath(book, kind)}
    below = {lot: tuple([name for name in maker.lot(lot) if name in kinds]) for lot in field.counts}
    return number_parted(field, {lot: below[lot] in parted_lots for lot in below}) > MOST_TOLD_APART


def plain(book, kind):
    """A tuple (book, kind) of a book without asks whose trees are those of a kind, or None if there is none."""
    check_book(book)
    check_kind(kind)
    kin = kin_of(book, kind)
    if kin is None:
        return kept_book(book.signs, rules_beneath(book, kind), kind)
    if kin.needs_asks():
        return None
    grove = Grove()
    held = trees_of_lots(grove, kin.field, kin.parted)
    if held is None or are_too_many(book, kind, kin):
        raise TooMany("there are more than forty trees of which two of one lot are parted")
    apart = {lot: held[lot] for lot in kin.parted}
    unasked = Unasked(kin.maker, kin.field, kin.kinship, grove, apart)
    blocks = unasked.blocks
    return unasked.book_of(list({blocks[lot]: True for lot in blocks if kin.maker.has(lot, kind)}))


def parted_row(book, kind, many):
    """A list of so many different trees of which each two are parted for a kind."""
    check_book(book)
    check_kind(kind)
    if not is_between(many, 1, MOST_PARTED):
        raise InvalidNumber("a number of parted trees is an integer from 1 to 6")
    kin = kin_of(book, kind)
    if kin is None or not kin.needs_asks():
        raise PlainKind("a book without asks has a kind with just these trees")
    grove = Grove()
    nursery = Nursery(grove, kin.field.steps, most_needed(many, len(kin.field.counts)))
    row = []
    while len(row) < many:
        number, lot = nursery.next_tree()
        if all([kin.kinship.are_parted(lot, other) for _, other in row]):
            row.append((number, lot))
    trees = grove.trees()
    return [trees[number] for number, _ in row]


def is_parted_row(book, kind, thing):
    """Whether an object is a list of trees of which each two are parted for a kind."""
    check_book(book)
    check_kind(kind)
    signs = book.signs
    if not isinstance(thing, list) or not all([is_grown(signs, tree) for tree in thing]):
        return False
    grove = Grove()
    numbers = [grove.put(tree) for tree in thing]
    if len(set(numbers)) < len(numbers):
        return False
    kin = Kin(signs, rules_beneath(book, kind), kind)
    told = lots_of_nodes(kin.maker, grove.nodes)
    many = {}
    for number in numbers:
        many[told[number]] = many.get(told[number], 0) + 1
    return all([
        kin.kinship.are_parted(one, other) for one in many for other in many if one != other or many[one] > 1
    ])
