"""Kinds cut: the trees of a kind up to a size, and the trees of a list."""

from likeboughs.books import MOST_RULES, check_book, check_kind
from likeboughs.cutting import cut_rules
from likeboughs.errors import InvalidNumber, InvalidTrees
from likeboughs.fields import Field
from likeboughs.groves import Grove
from likeboughs.lotbooks import book_of_lots, kept_book
from likeboughs.reach import maker_beneath, rules_beneath
from likeboughs.trees import check_signs
from likeboughs.walks import is_grown
from likeboughs.words import is_between, name_at

MOST_CUT = 7
MOST_TOLD = 20


def book_of_kind(book, kind):
    """A tuple of a book and of a kind with just the trees of a kind, its rules told by lots."""
    maker = maker_beneath(book, kind)
    counts = Field(maker).counts
    return book_of_lots(maker, counts, [lot for lot in counts if maker.has(lot, kind)])


def cut(book, kind, size):
    """A tuple (book, kind) whose trees are those of a kind that have at most a size."""
    check_book(book)
    check_kind(kind)
    if not is_between(size, 1, MOST_CUT):
        raise InvalidNumber("a size to cut at is an integer from 1 to 7")
    rules, name = cut_rules(rules_beneath(book, kind), kind, size)
    if len(rules) > MOST_RULES:
        # Where there are many rules, there are fewer steps than rules.
        few, few_kind = book_of_kind(book, kind)
        rules, name = cut_rules(few.rules, few_kind, size)
    return kept_book(book.signs, rules, name)


def rule_of_node(kind, node):
    """The rule by which a kind has the tree of a node, each part being the only tree of a kind of its own."""
    sign, *brothers = node
    return (kind, sign, tuple([name_at(number) for number in brothers]), ())


def of_trees(signs, trees):
    """A tuple (book, kind) whose trees are those of a list."""
    check_signs(signs)
    if not isinstance(trees, list) or len(trees) > MOST_TOLD or not all([is_grown(signs, tree) for tree in trees]):
        raise InvalidTrees("the trees are a list of at most twenty trees of the signs")
    grove = Grove()
    tops = list({grove.put(tree): True for tree in trees})
    kind = name_at(len(grove.nodes))
    rules = [rule_of_node(kind, grove.nodes[number]) for number in tops]
    rules.extend([rule_of_node(name_at(number), node) for number, node in enumerate(grove.nodes)])
    return kept_book(signs, rules, kind)
