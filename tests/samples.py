"""Signs, trees, books and odd objects that several tests use."""

from likeboughs.books import Book
from likeboughs.draft import Draft
from likeboughs.errors import BoughError, ParseError
from likeboughs.reader import Reader
from likeboughs.shell import Shell

SIGNS = {'a': 0, 'b': 0, 'f': 2}
ALL_SIGNS = {'a': 0, 's': 1, 'f': 2, 'g': 3}
A, B = ('a',), ('b',)
ANY_RULES = [('any', 'a', (), ()), ('any', 'b', (), ()), ('any', 'f', ('any', 'any'), ())]
ODD_NAMES = ['', 'A', 'aB', 'abcdefghi', 'a1', '1', 'a b', ' a', 'a ', 'a\n', '\ta', 'a_b', '_', 'a-', '{', '`',
             True, False, None, 0, 1, 7, (), ('a',), [], ['a'], {}, {'a': 0}]


def example_book():
    """The book of the document."""
    return Book(SIGNS, ANY_RULES + [
        ('twin', 'f', ('any', 'any'), ((0, 1, True),)),
        ('full', 'a', (), ()),
        ('full', 'f', ('full', 'full'), ((0, 1, True),)),
    ])


def short_book():
    """The second book of the document."""
    return Book(SIGNS, [
        ('leaf', 'a', (), ()), ('leaf', 'b', (), ()), ('pair', 'f', ('leaf', 'leaf'), ((0, 1, False),)),
    ])


def asking_book():
    """A book of all signs with asks of both sorts, also several in one rule."""
    return Book(ALL_SIGNS, [
        ('any', 'a', (), ()), ('any', 's', ('any',), ()), ('any', 'f', ('any', 'any'), ()),
        ('any', 'g', ('any', 'any', 'any'), ()),
        ('same', 'g', ('any', 'any', 'any'), ((0, 1, True), (1, 2, True))),
        ('some', 'g', ('any', 'any', 'any'), ((0, 2, True), (1, 2, False))),
        ('apart', 'g', ('any', 'any', 'any'), ((0, 1, False), (0, 2, False), (1, 2, False))),
        ('twin', 'f', ('any', 'any'), ((0, 1, True),)), ('odd', 'f', ('any', 'any'), ((0, 1, False),)),
        ('never', 'f', ('any', 'any'), ((0, 1, False), (0, 1, True))),
        ('over', 's', ('twin',), ()), ('over', 's', ('same',), ()), ('beneath', 'f', ('twin', 'odd'), ()),
        ('lost', 'f', ('nothing', 'any'), ()), ('deep', 's', ('deep',), ()),
    ])


def nested(make, levels):
    """An object of so many levels, made by wrapping it again and again."""
    thing = 'a'
    for _ in range(levels):
        thing = make(thing)
    return thing


def grown(tree, make, laps):
    """A tree that is put beneath another one again and again."""
    for _ in range(laps):
        tree = make(tree)
    return tree


def wide_tree(places, leaves=(A, B)):
    """A tree of the sign f with about so many places, as flat as it can be, its leaves in turn."""
    level = [leaves[at % len(leaves)] for at in range((places + 1) // 2)]
    while len(level) > 1:
        pairs = [('f', level[at], level[at + 1]) for at in range(0, len(level) - 1, 2)]
        level = pairs + level[len(pairs) * 2:]
    return level[0]


def odd_objects():
    """Objects of all kinds that are no signs, trees, rules, lists of rules, names or numbers."""
    return [
        None, True, False, -1, 41, 2001, -10 ** 39, 10 ** 40 - 1,
        '', 'A', 'f(a,a)', 'a\tb\nc', 'abcdefghi', 'a' * 5000, '{}',
        (), (None,), ((),), ('nosuch',), (('a',),), ('a', ()), ('f', A), ('f', A, B, A), ('f', A, None), ('f', [A], A),
        ('f', 'a', 'a'), ('f', 0, 1), (0,), (True, A, A), (['f'], A, A), ({'f': 2}, A, A), ((('f',),), A, A),
        ['a'], ['f', A, A], [A], [None], [[]], [('any', 'a', ())], [('any', 'a', (), ()), None],
        {}, {'A': 0}, {'a': 4}, {'a': -1}, {'a': True}, {'a': '0'}, {'a': None}, {1: 2}, {None: 0}, {True: 1},
        {('a', None, (True, 2)): 0}, {nested(lambda thing: (thing,), 59): 'a'}, {'a': 0, 'f': [2]},
        nested(lambda thing: (thing,), 60), nested(lambda thing: [thing], 60), nested(lambda thing: {'a': thing}, 60),
        nested(lambda thing: ('f', A, thing), 60), nested(lambda thing: ('f', thing, None), 60),
        list(range(5000)), tuple(range(5000)), {number: number for number in range(2500)}, [A] * 3000,
        example_book(), Book({'f': 2}, []), [example_book()], (example_book(),), {'a': example_book()},
        ('f', example_book(), A), BoughError('odd'), ParseError(3), Reader(example_book()), Draft(SIGNS), Shell(), [Draft(SIGNS)],
        ('f', Reader(example_book()), Shell()),
    ]


def part_book(signs, trees):
    """A book whose kind "kind" has the trees of a list, and in which each part of one is the only tree of a kind."""
    names, rules = {}, []
    for tree in trees:
        rules.append(('kind', tree[0], tuple(part_name(brother, names, rules) for brother in tree[1:]), ()))
    return Book(signs, list(dict.fromkeys(rules)))


def part_name(part, names, rules):
    if part not in names:
        below = tuple(part_name(brother, names, rules) for brother in part[1:])
        number = len(names)
        names[part] = 'p' + ''.join('abcdefghij'[int(figure)] for figure in str(number))
        rules.append((names[part], part[0], below, ()))
    return names[part]
