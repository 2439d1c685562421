"""Each call with arguments that it takes, and with the errors in the order in which the document lists them."""

from likeboughs import (
    additions as additions_file, beside, books, counting, cuts, finite, joined as joined_file, made, needless, nets, plain as plain_file,
    readings, steps, surroundings, tables, texts, trees,
)
from likeboughs.additions import least_additions, with_asks
from likeboughs.beside import are_alike, holds, parting
from likeboughs.books import Book, is_rule
from likeboughs.counting import count, listed, place_of, tree_at
from likeboughs.cuts import cut, of_trees
from likeboughs.errors import (
    InvalidAdditions, InvalidBook, InvalidFrame, InvalidKind, InvalidLots, InvalidMatch, InvalidNet, InvalidNumber, InvalidPattern,
    InvalidRule, InvalidSigns, InvalidTree, InvalidTrees, ParseError, PlainKind, TooMany, UnknownSign,
)
from likeboughs.finite import all_trees, is_finite, is_ring, ring
from likeboughs.joined import common, joined, opposite, without
from likeboughs.made import is_made, least, least_size
from likeboughs.needless import needless_asks, needless_rules, without_ask, without_rule
from likeboughs.nets import is_net, least_net, net_lots, net_of, net_sizes, same_nodes, tree_of
from likeboughs.plain import is_parted_row, needs_asks, parted_row, plain
from likeboughs.readings import is_of, is_reading, lot_of, reading
from likeboughs.steps import pattern_of, patterns, step
from likeboughs.surroundings import are_kin, filled, is_frame, is_parter, parter
from likeboughs.tables import counts, is_table, table
from likeboughs.texts import format_book, format_net, format_rule, format_tree, parse_book, parse_net, parse_rule, parse_tree
from likeboughs.trees import depth, is_less, is_signs, is_tree, parts, size, trees_of_size
from tests.samples import A, B, ODD_NAMES, SIGNS, example_book, odd_objects, short_book

FAA = ('f', A, A)
SHORT_TABLE = table(short_book())
ODD_BOOKS = [thing for thing in odd_objects() if not isinstance(thing, Book)] + [
    Book, SIGNS, [('any', 'a', (), ())], (SIGNS, []), 'book',
]
ODD_KINDS = ODD_NAMES + odd_objects()
ODD_TREES = odd_objects() + ['a', ('s', A), ('f', A), ['a'], ('f', A, ['a']), ('a', A)]
ODD_NUMBERS = odd_objects() + [0, 4.0, '1', (1,)]
ODD_SIGNS = odd_objects()
ODD_FRAMES = [thing for thing in odd_objects() if thing is not None and thing != ('f', A, None)] + [A, ('f', None)]
ODD_LISTS = [thing for thing in odd_objects() if thing != [A]] + [[A] * 21, (A,), A, [A, 'a'], [('s', A)]]
UNLIKE_BOOKS = [Book({'a': 0, 'b': 0}, []), Book({'a': 0, 'b': 0, 'f': 3}, []), Book({**SIGNS, 'c': 0}, [('leaf', 'c', (), ())])]
BESIDE = {'one': example_book(), 'kind': 'any', 'other': short_book(), 'other_kind': 'pair'}
BESIDE_ERRORS = [
    ('one', InvalidBook, ODD_BOOKS), ('kind', InvalidKind, ODD_KINDS), ('other', InvalidBook, ODD_BOOKS),
    ('other_kind', InvalidKind, ODD_KINDS), ('other', InvalidMatch, UNLIKE_BOOKS),
]
KIND_ERRORS = [('book', InvalidBook, ODD_BOOKS), ('kind', InvalidKind, ODD_KINDS)]
ODD_ADDITIONS = odd_objects() + [
    ((2, (0, 1, True)),), [(2, (0, 1, 1))], [(3, (0, 1, True))], [(2, (0, 1, True)), (2, (0, 1, False))], [(6, (0, 1, True))],
]
NET = [('b',), ('a',), ('f', 1, 1), ('f', 2, 1)]
ODD_NETS = [thing for thing in odd_objects() if thing != [A]] + [[], [('f', 0, 0)], (('a',),), [('a',)] * 201, [('a',), ('f', 0, True)]]
GREAT_NETS = [[('a',)] + [('f', at, at) for at in range(laps)] for laps in [8, 39, 199]] + [[('a',)] + [('f', at, 0) for at in range(40)]]
ODD_RULES = odd_objects() + [('any', 'a', ()), ['any', 'a', (), ()], ('any', 'f', ('any', 'any'), ((1, 0, True),))]
ODD_TEXTS = [thing for thing in odd_objects() if thing != 'f(a,a)'] + ['a ', 'k = b ', 'signs', b'a', ['a']]
SIGNS_ERRORS = [('signs', InvalidSigns, ODD_SIGNS)]
FULL_RING = (('f', FAA, FAA), ('f', None, None), None)
CALLS = [
    (lot_of, {'book': example_book(), 'tree': FAA}, [('book', InvalidBook, ODD_BOOKS), ('tree', InvalidTree, ODD_TREES)]),
    (is_of, {'book': example_book(), 'kind': 'twin', 'tree': FAA}, [
        ('book', InvalidBook, ODD_BOOKS), ('kind', InvalidKind, ODD_KINDS), ('tree', InvalidTree, ODD_TREES)]),
    (reading, {'book': example_book(), 'kind': 'twin', 'tree': FAA}, [
        ('book', InvalidBook, ODD_BOOKS), ('kind', InvalidKind, ODD_KINDS), ('tree', InvalidTree, ODD_TREES)]),
    (is_reading, {'book': example_book(), 'kind': 'twin', 'tree': FAA, 'thing': (3, (0,), (0,))}, [
        ('book', InvalidBook, ODD_BOOKS), ('kind', InvalidKind, ODD_KINDS), ('tree', InvalidTree, ODD_TREES)]),
    (patterns, {'many': 3}, [('many', InvalidNumber, [4, -1] + odd_objects())]),
    (pattern_of, {'signs': SIGNS, 'trees': [A, B, A]}, [
        ('signs', InvalidSigns, ODD_SIGNS), ('trees', InvalidTrees, [[A] * 4, (A,), A, None, [None], [A, 'a'], {}])]),
    (step, {'book': example_book(), 'sign': 'f', 'lots': (('any',), ('any',)), 'pattern': (0, 1)}, [
        ('book', InvalidBook, ODD_BOOKS), ('sign', UnknownSign, ODD_NAMES + odd_objects() + ['c']),
        ('lots', InvalidLots, odd_objects() + [(('any',),), (('none',), ('any',)), (('any',), ['any'])]),
        ('pattern', InvalidPattern, odd_objects() + [(0,), (1, 1), (0, True), [0, 1]])]),
    (counts, {'book': example_book()}, [('book', InvalidBook, ODD_BOOKS)]),
    (table, {'book': example_book()}, [('book', InvalidBook, ODD_BOOKS)]),
    (is_table, {'book': short_book(), 'thing': SHORT_TABLE}, [('book', InvalidBook, ODD_BOOKS)]),
    (count, {'book': example_book(), 'kind': 'any', 'size': 5}, [
        ('book', InvalidBook, ODD_BOOKS), ('kind', InvalidKind, ODD_KINDS), ('size', InvalidNumber, ODD_NUMBERS)]),
    (listed, {'book': example_book(), 'kind': 'any', 'size': 5}, [
        ('book', InvalidBook, ODD_BOOKS), ('kind', InvalidKind, ODD_KINDS), ('size', InvalidNumber, ODD_NUMBERS)]),
    (tree_at, {'book': example_book(), 'kind': 'any', 'size': 5, 'index': 1}, [
        ('book', InvalidBook, ODD_BOOKS), ('kind', InvalidKind, ODD_KINDS), ('size', InvalidNumber, ODD_NUMBERS),
        ('index', InvalidNumber, odd_objects() + [16])]),
    (place_of, {'book': example_book(), 'kind': 'any', 'tree': FAA}, [
        ('book', InvalidBook, ODD_BOOKS), ('kind', InvalidKind, ODD_KINDS), ('tree', InvalidTree, ODD_TREES)]),
    (is_made, {'book': example_book(), 'kind': 'twin'}, KIND_ERRORS),
    (least_size, {'book': example_book(), 'kind': 'twin'}, KIND_ERRORS),
    (least, {'book': example_book(), 'kind': 'full'}, KIND_ERRORS),
    (is_finite, {'book': short_book(), 'kind': 'pair'}, KIND_ERRORS),
    (all_trees, {'book': short_book(), 'kind': 'pair'}, KIND_ERRORS),
    (ring, {'book': example_book(), 'kind': 'full'}, KIND_ERRORS),
    (is_ring, {'book': example_book(), 'kind': 'full', 'thing': FULL_RING}, KIND_ERRORS),
    (is_frame, {'signs': SIGNS, 'thing': ('f', None, A)}, [('signs', InvalidSigns, ODD_SIGNS)]),
    (filled, {'signs': SIGNS, 'frame': ('f', None, A), 'tree': B}, [
        ('signs', InvalidSigns, ODD_SIGNS), ('frame', InvalidFrame, ODD_FRAMES), ('tree', InvalidTree, ODD_TREES)]),
    (parter, {'book': example_book(), 'kind': 'full', 'one': A, 'other': B}, [
        ('book', InvalidBook, ODD_BOOKS), ('kind', InvalidKind, ODD_KINDS), ('one', InvalidTree, ODD_TREES),
        ('other', InvalidTree, ODD_TREES)]),
    (is_parter, {'book': example_book(), 'kind': 'full', 'one': A, 'other': B, 'thing': ('f', None, A)}, [
        ('book', InvalidBook, ODD_BOOKS), ('kind', InvalidKind, ODD_KINDS), ('one', InvalidTree, ODD_TREES),
        ('other', InvalidTree, ODD_TREES)]),
    (are_kin, {'book': example_book(), 'kind': 'any', 'one': A, 'other': B}, [
        ('book', InvalidBook, ODD_BOOKS), ('kind', InvalidKind, ODD_KINDS), ('one', InvalidTree, ODD_TREES),
        ('other', InvalidTree, ODD_TREES)]),
    (holds, BESIDE, BESIDE_ERRORS), (parting, BESIDE, BESIDE_ERRORS), (are_alike, BESIDE, BESIDE_ERRORS),
    (joined, BESIDE, BESIDE_ERRORS), (common, BESIDE, BESIDE_ERRORS), (without, BESIDE, BESIDE_ERRORS),
    (opposite, {'book': example_book(), 'kind': 'twin'}, KIND_ERRORS),
    (cut, {'book': example_book(), 'kind': 'any', 'size': 3}, KIND_ERRORS + [('size', InvalidNumber, ODD_NUMBERS + [8])]),
    (of_trees, {'signs': SIGNS, 'trees': [A, FAA]}, [('signs', InvalidSigns, ODD_SIGNS), ('trees', InvalidTrees, ODD_LISTS)]),
    (without_rule, {'book': example_book(), 'index': 0}, [
        ('book', InvalidBook, ODD_BOOKS), ('index', InvalidNumber, odd_objects() + [6])]),
    (without_ask, {'book': example_book(), 'index': 3, 'ask': 0}, [
        ('book', InvalidBook, ODD_BOOKS), ('index', InvalidNumber, odd_objects() + [6, 2]),
        ('ask', InvalidNumber, odd_objects() + [1])]),
    (needless_rules, {'book': example_book(), 'kind': 'full'}, KIND_ERRORS),
    (needless_asks, {'book': example_book(), 'kind': 'full'}, KIND_ERRORS),
    (is_signs, {'thing': SIGNS}, []),
    (is_tree, {'signs': SIGNS, 'thing': FAA}, SIGNS_ERRORS),
    (size, {'signs': SIGNS, 'tree': FAA}, SIGNS_ERRORS + [('tree', InvalidTree, ODD_TREES)]),
    (depth, {'signs': SIGNS, 'tree': FAA}, SIGNS_ERRORS + [('tree', InvalidTree, ODD_TREES)]),
    (parts, {'signs': SIGNS, 'tree': FAA}, SIGNS_ERRORS + [('tree', InvalidTree, ODD_TREES)]),
    (is_less, {'signs': SIGNS, 'one': A, 'other': FAA}, SIGNS_ERRORS + [('one', InvalidTree, ODD_TREES), ('other', InvalidTree, ODD_TREES)]),
    (trees_of_size, {'signs': SIGNS, 'size': 3}, SIGNS_ERRORS + [('size', InvalidNumber, ODD_NUMBERS), ('size', TooMany, [11, 39])]),
    (is_rule, {'signs': SIGNS, 'thing': ('any', 'a', (), ())}, SIGNS_ERRORS),
    (with_asks, {'book': example_book(), 'additions': [(2, (0, 1, False))]}, [
        ('book', InvalidBook, ODD_BOOKS), ('additions', InvalidAdditions, ODD_ADDITIONS)]),
    (least_additions, {'book': example_book(), 'kind': 'any', 'tree': FAA}, KIND_ERRORS + [('tree', InvalidTree, ODD_TREES)]),
    (needs_asks, {'book': example_book(), 'kind': 'twin'}, KIND_ERRORS),
    (plain, {'book': short_book(), 'kind': 'pair'}, KIND_ERRORS),
    (parted_row, {'book': example_book(), 'kind': 'twin', 'many': 3}, KIND_ERRORS + [
        ('many', InvalidNumber, ODD_NUMBERS + [7]), ('kind', PlainKind, ['any', 'none'])]),
    (is_parted_row, {'book': example_book(), 'kind': 'twin', 'thing': [A, B]}, KIND_ERRORS),
    (is_net, {'signs': SIGNS, 'thing': NET}, SIGNS_ERRORS),
    (net_sizes, {'signs': SIGNS, 'net': NET}, SIGNS_ERRORS + [('net', InvalidNet, ODD_NETS)]),
    (same_nodes, {'signs': SIGNS, 'net': NET}, SIGNS_ERRORS + [('net', InvalidNet, ODD_NETS)]),
    (least_net, {'signs': SIGNS, 'net': NET}, SIGNS_ERRORS + [('net', InvalidNet, ODD_NETS)]),
    (net_lots, {'book': example_book(), 'net': NET}, [('book', InvalidBook, ODD_BOOKS), ('net', InvalidNet, ODD_NETS)]),
    (net_of, {'signs': SIGNS, 'tree': FAA}, SIGNS_ERRORS + [('tree', InvalidTree, ODD_TREES)]),
    (tree_of, {'signs': SIGNS, 'net': NET}, SIGNS_ERRORS + [('net', InvalidNet, ODD_NETS), ('net', TooMany, GREAT_NETS)]),
    (format_tree, {'signs': SIGNS, 'tree': FAA}, SIGNS_ERRORS + [('tree', InvalidTree, ODD_TREES)]),
    (format_rule, {'signs': SIGNS, 'rule': ('any', 'a', (), ())}, SIGNS_ERRORS + [('rule', InvalidRule, ODD_RULES)]),
    (format_net, {'signs': SIGNS, 'net': NET}, SIGNS_ERRORS + [('net', InvalidNet, ODD_NETS)]),
    (format_book, {'book': short_book()}, [('book', InvalidBook, ODD_BOOKS)]),
    (parse_tree, {'signs': SIGNS, 'text': 'f(a,a)'}, SIGNS_ERRORS + [('text', ParseError, ODD_TEXTS)]),
    (parse_rule, {'signs': SIGNS, 'text': 'any = a'}, SIGNS_ERRORS + [('text', ParseError, ODD_TEXTS)]),
    (parse_net, {'signs': SIGNS, 'text': 'b a f:1:1 f:2:1'}, SIGNS_ERRORS + [('text', ParseError, ODD_TEXTS)]),
    (parse_book, {'text': 'signs a:0 b:0 f:2\nany = a'}, [('text', ParseError, ODD_TEXTS)]),
]
# The file that the document lists each call under.
FILES = {
    readings: [lot_of, is_of, reading, is_reading], steps: [patterns, pattern_of, step], tables: [counts, table, is_table],
    counting: [count, listed, tree_at, place_of], made: [is_made, least_size, least],
    finite: [is_finite, all_trees, ring, is_ring], surroundings: [is_frame, filled, parter, is_parter, are_kin],
    beside: [holds, parting, are_alike], joined_file: [joined, common, without, opposite], cuts: [cut, of_trees],
    needless: [without_rule, without_ask, needless_rules, needless_asks],
    trees: [is_signs, is_tree, size, depth, parts, is_less, trees_of_size], books: [is_rule],
    additions_file: [with_asks, least_additions], plain_file: [needs_asks, plain, parted_row, is_parted_row],
    nets: [is_net, net_sizes, same_nodes, least_net, net_lots, net_of, tree_of],
    texts: [format_tree, format_rule, format_net, format_book, parse_tree, parse_rule, parse_net, parse_book],
}
