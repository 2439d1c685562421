"""Whether there are finitely many trees of a kind: all of them, or a ring."""

from likeboughs.books import check_book, check_kind
from likeboughs.endings import MOST_LISTED, ended_lots, trees_of_lots
from likeboughs.errors import TooMany
from likeboughs.fields import Field
from likeboughs.frames import is_frame_of
from likeboughs.gathering import Gathering
from likeboughs.groves import Grove
from likeboughs.makers import Maker, lots_of_nodes, maker_of
from likeboughs.reach import kinds_in_order, rules_beneath
from likeboughs.rings import some_ring
from likeboughs.walks import is_grown, places_of_signs


def has_an_end(book, kind):
    """Whether there are finitely many trees of a kind."""
    rules = rules_beneath(book, kind)
    if kinds_in_order(rules) is not None:
        return True
    maker = Maker(book.signs, rules)
    field = Field(maker)
    ended = ended_lots(field)
    return all([lot in ended for lot in field.counts if maker.has(lot, kind)])


def is_finite(book, kind):
    """Whether there are finitely many trees of a kind."""
    check_book(book)
    check_kind(kind)
    return has_an_end(book, kind)


def numbers_of_all(grove, signs, rules, kind):
    """The numbers in a grove of all trees of a kind; None if there are more than three hundred, or no end of them."""
    order = kinds_in_order(rules)
    if order is not None:
        gathering = Gathering(grove, rules, order)
        if gathering.least_number(kind) > MOST_LISTED:
            return None
        numbers = gathering.trees(kind)
        if numbers is not None:
            return numbers if len(numbers) <= MOST_LISTED else None
    maker = Maker(signs, rules)
    field = Field(maker)
    wanted = [lot for lot in field.counts if maker.has(lot, kind)]
    held = trees_of_lots(grove, field, wanted)
    return None if held is None else [number for lot in wanted for number in held[lot]]


def all_trees(book, kind):
    """The ascending list of all trees of a kind, of which there are at most three hundred."""
    check_book(book)
    check_kind(kind)
    grove = Grove()
    numbers = numbers_of_all(grove, book.signs, rules_beneath(book, kind), kind)
    if numbers is None:
        raise TooMany("there are more than three hundred trees of this kind, or no end of them")
    trees = grove.trees()
    return [row[1] for row in sorted([(grove.places[number], trees[number]) for number in numbers])]


def ring(book, kind):
    """A ring of a kind: a tuple (tree, frame, outer), or None if there are finitely many trees of the kind."""
    check_book(book)
    check_kind(kind)
    if has_an_end(book, kind):
        return None
    maker = maker_of(book)
    return some_ring(maker, Field(maker), kind)


def is_ring_shaped(signs, thing):
    """Whether an object is a tuple of a tree and of two smaller frames, the first one not None."""
    if not isinstance(thing, tuple) or len(thing) != 3:
        return False
    tree, frame, outer = thing
    if not is_grown(signs, tree) or frame is None or not is_frame_of(signs, frame) or not is_frame_of(signs, outer):
        return False
    return places_of_signs(tree) > max(places_of_signs(frame), places_of_signs(outer))


def is_ring(book, kind, thing):
    """Whether an object is a ring of a kind."""
    check_book(book)
    check_kind(kind)
    if not is_ring_shaped(book.signs, thing):
        return False
    tree, frame, outer = thing
    grove = Grove()
    hole = grove.put(tree)
    framed, reached = grove.put(frame, hole), grove.put(outer, hole)
    maker = maker_of(book)
    lots = lots_of_nodes(maker, grove.nodes)
    return lots[framed] == lots[hole] and maker.has(lots[reached], kind)
