"""Each call with arguments that it takes, and with the errors in the order in which the document lists them."""

from likeboughs import beside, counting, cuts, finite, joined as joined_file, made, needless, readings, steps, surroundings, tables
from likeboughs.beside import are_alike, holds, parting
from likeboughs.books import Book
from likeboughs.counting import count, listed, place_of, tree_at
from likeboughs.cuts import cut, of_trees
from likeboughs.errors import (
    InvalidBook, InvalidFrame, InvalidKind, InvalidLots, InvalidMatch, InvalidNumber, InvalidPattern, InvalidSigns, InvalidTree,
    InvalidTrees, UnknownSign,
)
from likeboughs.finite import all_trees, is_finite, is_ring, ring
from likeboughs.joined import common, joined, opposite, without
from likeboughs.made import is_made, least, least_size
from likeboughs.needless import needless_asks, needless_rules, without_ask, without_rule
from likeboughs.readings import is_of, is_reading, lot_of, reading
from likeboughs.steps import pattern_of, patterns, step
from likeboughs.surroundings import are_kin, filled, is_frame, is_parter, parter
from likeboughs.tables import counts, is_table, table
from tests.samples import A, B, ODD_NAMES, SIGNS, example_book, odd_objects, short_book

FAA = ('f', A, A)
SHORT_TABLE = table(short_book())
ODD_BOOKS = [thing for thing in odd_objects() if not isinstance(thing, Book)] + [
    Book, SIGNS, [('any', 'a', (), ())], (SIGNS, []), 'book',
]
ODD_KINDS = ODD_NAMES + odd_objects()
ODD_TREES = odd_objects() + ['a', ('s', A), ('f', A), ['a'], ('f', A, ['a']), ('a', A)]
ODD_NUMBERS = odd_objects() + [0, 4.0, '1', (1,)]
ODD_SIGNS = odd_objects()
ODD_FRAMES = [thing for thing in odd_objects() if thing is not None and thing != ('f', A, None)] + [A, ('f', None)]
ODD_LISTS = [thing for thing in odd_objects() if thing != [A]] + [[A] * 21, (A,), A, [A, 'a'], [('s', A)]]
UNLIKE_BOOKS = [Book({'a': 0, 'b': 0}, []), Book({'a': 0, 'b': 0, 'f': 3}, []), Book({**SIGNS, 'c': 0}, [('leaf', 'c', (), ())])]
BESIDE = {'one': example_book(), 'kind': 'any', 'other': short_book(), 'other_kind': 'pair'}
BESIDE_ERRORS = [
    ('one', InvalidBook, ODD_BOOKS), ('kind', InvalidKind, ODD_KINDS), ('other', InvalidBook, ODD_BOOKS),
    ('other_kind', InvalidKind, ODD_KINDS), ('other', InvalidMatch, UNLIKE_BOOKS),
]
KIND_ERRORS = [('book', InvalidBook, ODD_BOOKS), ('kind', InvalidKind, ODD_KINDS)]
FULL_RING = (('f', FAA, FAA), ('f', None, None), None)
CALLS = [
    (lot_of, {'book': example_book(), 'tree': FAA}, [('book', InvalidBook, ODD_BOOKS), ('tree', InvalidTree, ODD_TREES)]),
    (is_of, {'book': example_book(), 'kind': 'twin', 'tree': FAA}, [
        ('book', InvalidBook, ODD_BOOKS), ('kind', InvalidKind, ODD_KINDS), ('tree', InvalidTree, ODD_TREES)]),
    (reading, {'book': example_book(), 'kind': 'twin', 'tree': FAA}, [
        ('book', InvalidBook, ODD_BOOKS), ('kind', InvalidKind, ODD_KINDS), ('tree', InvalidTree, ODD_TREES)]),
    (is_reading, {'book': example_book(), 'kind': 'twin', 'tree': FAA, 'thing': (3, (0,), (0,))}, [
        ('book', InvalidBook, ODD_BOOKS), ('kind', InvalidKind, ODD_KINDS), ('tree', InvalidTree, ODD_TREES)]),
    (patterns, {'many': 3}, [('many', InvalidNumber, [4, -1] + odd_objects())]),
    (pattern_of, {'signs': SIGNS, 'trees': [A, B, A]}, [
        ('signs', InvalidSigns, ODD_SIGNS), ('trees', InvalidTrees, [[A] * 4, (A,), A, None, [None], [A, 'a'], {}])]),
    (step, {'book': example_book(), 'sign': 'f', 'lots': (('any',), ('any',)), 'pattern': (0, 1)}, [
        ('book', InvalidBook, ODD_BOOKS), ('sign', UnknownSign, ODD_NAMES + odd_objects() + ['c']),
        ('lots', InvalidLots, odd_objects() + [(('any',),), (('none',), ('any',)), (('any',), ['any'])]),
        ('pattern', InvalidPattern, odd_objects() + [(0,), (1, 1), (0, True), [0, 1]])]),
    (counts, {'book': example_book()}, [('book', InvalidBook, ODD_BOOKS)]),
    (table, {'book': example_book()}, [('book', InvalidBook, ODD_BOOKS)]),
    (is_table, {'book': short_book(), 'thing': SHORT_TABLE}, [('book', InvalidBook, ODD_BOOKS)]),
    (count, {'book': example_book(), 'kind': 'any', 'size': 5}, [
        ('book', InvalidBook, ODD_BOOKS), ('kind', InvalidKind, ODD_KINDS), ('size', InvalidNumber, ODD_NUMBERS)]),
    (listed, {'book': example_book(), 'kind': 'any', 'size': 5}, [
        ('book', InvalidBook, ODD_BOOKS), ('kind', InvalidKind, ODD_KINDS), ('size', InvalidNumber, ODD_NUMBERS)]),
    (tree_at, {'book': example_book(), 'kind': 'any', 'size': 5, 'index': 1}, [
        ('book', InvalidBook, ODD_BOOKS), ('kind', InvalidKind, ODD_KINDS), ('size', InvalidNumber, ODD_NUMBERS),
        ('index', InvalidNumber, odd_objects() + [16])]),
    (place_of, {'book': example_book(), 'kind': 'any', 'tree': FAA}, [
        ('book', InvalidBook, ODD_BOOKS), ('kind', InvalidKind, ODD_KINDS), ('tree', InvalidTree, ODD_TREES)]),
    (is_made, {'book': example_book(), 'kind': 'twin'}, KIND_ERRORS),
    (least_size, {'book': example_book(), 'kind': 'twin'}, KIND_ERRORS),
    (least, {'book': example_book(), 'kind': 'full'}, KIND_ERRORS),
    (is_finite, {'book': short_book(), 'kind': 'pair'}, KIND_ERRORS),
    (all_trees, {'book': short_book(), 'kind': 'pair'}, KIND_ERRORS),
    (ring, {'book': example_book(), 'kind': 'full'}, KIND_ERRORS),
    (is_ring, {'book': example_book(), 'kind': 'full', 'thing': FULL_RING}, KIND_ERRORS),
    (is_frame, {'signs': SIGNS, 'thing': ('f', None, A)}, [('signs', InvalidSigns, ODD_SIGNS)]),
    (filled, {'signs': SIGNS, 'frame': ('f', None, A), 'tree': B}, [
        ('signs', InvalidSigns, ODD_SIGNS), ('frame', InvalidFrame, ODD_FRAMES), ('tree', InvalidTree, ODD_TREES)]),
    (parter, {'book': example_book(), 'kind': 'full', 'one': A, 'other': B}, [
        ('book', InvalidBook, ODD_BOOKS), ('kind', InvalidKind, ODD_KINDS), ('one', InvalidTree, ODD_TREES),
        ('other', InvalidTree, ODD_TREES)]),
    (is_parter, {'book': example_book(), 'kind': 'full', 'one': A, 'other': B, 'thing': ('f', None, A)}, [
        ('book', InvalidBook, ODD_BOOKS), ('kind', InvalidKind, ODD_KINDS), ('one', InvalidTree, ODD_TREES),
        ('other', InvalidTree, ODD_TREES)]),
    (are_kin, {'book': example_book(), 'kind': 'any', 'one': A, 'other': B}, [
        ('book', InvalidBook, ODD_BOOKS), ('kind', InvalidKind, ODD_KINDS), ('one', InvalidTree, ODD_TREES),
        ('other', InvalidTree, ODD_TREES)]),
    (holds, BESIDE, BESIDE_ERRORS), (parting, BESIDE, BESIDE_ERRORS), (are_alike, BESIDE, BESIDE_ERRORS),
    (joined, BESIDE, BESIDE_ERRORS), (common, BESIDE, BESIDE_ERRORS), (without, BESIDE, BESIDE_ERRORS),
    (opposite, {'book': example_book(), 'kind': 'twin'}, KIND_ERRORS),
    (cut, {'book': example_book(), 'kind': 'any', 'size': 3}, KIND_ERRORS + [('size', InvalidNumber, ODD_NUMBERS + [8])]),
    (of_trees, {'signs': SIGNS, 'trees': [A, FAA]}, [('signs', InvalidSigns, ODD_SIGNS), ('trees', InvalidTrees, ODD_LISTS)]),
    (without_rule, {'book': example_book(), 'index': 0}, [
        ('book', InvalidBook, ODD_BOOKS), ('index', InvalidNumber, odd_objects() + [6])]),
    (without_ask, {'book': example_book(), 'index': 3, 'ask': 0}, [
        ('book', InvalidBook, ODD_BOOKS), ('index', InvalidNumber, odd_objects() + [6, 2]),
        ('ask', InvalidNumber, odd_objects() + [1])]),
    (needless_rules, {'book': example_book(), 'kind': 'full'}, KIND_ERRORS),
    (needless_asks, {'book': example_book(), 'kind': 'full'}, KIND_ERRORS),
]
# The file that the document lists each call under.
FILES = {
    readings: [lot_of, is_of, reading, is_reading], steps: [patterns, pattern_of, step], tables: [counts, table, is_table],
    counting: [count, listed, tree_at, place_of], made: [is_made, least_size, least],
    finite: [is_finite, all_trees, ring, is_ring], surroundings: [is_frame, filled, parter, is_parter, are_kin],
    beside: [holds, parting, are_alike], joined_file: [joined, common, without, opposite], cuts: [cut, of_trees],
    needless: [without_rule, without_ask, needless_rules, needless_asks],
}
