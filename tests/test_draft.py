"""Drafts, beside lists of rules and wishes."""

import random
import unittest

from likeboughs.books import Book
from likeboughs.draft import Draft
from likeboughs.errors import InvalidKind, InvalidNumber, InvalidRule, InvalidSigns, InvalidTree, InvalidValue, NothingToUndo
from likeboughs.readings import is_of
from tests.plain import plain_lot, plain_trees
from tests.samples import A, ALL_SIGNS, ANY_RULES, B, ODD_NAMES, SIGNS, example_book, grown, odd_objects, wide_tree

FAA, FAB = ('f', A, A), ('f', A, B)
LEAF, OTHER, HIGH = ANY_RULES
TWIN = ('twin', 'f', ('any', 'any'), ((0, 1, True),))
INDEXES = [-1, -2, 10 ** 39, -10 ** 39, True, False, None, '0', 0.0, (0,), [0]]
NO_RULES = [
    ('any', 'a', ()), ('any', 'c', (), ()), ('any', 'f', ('any',), ()), ('any', 'a', ('any',), ()), ['any', 'a', (), ()], ('Any', 'a', (), ()),
    ('any', 'f', ('any', 'any'), ((1, 0, True),)), ('any', 'f', ('any', 'any'), ((0, 1, 1),)), ('any', 'f', ['any', 'any'], ()),
    ('any', ['a'], (), ()), ('any', 'a', (), []), ('any', 'f', ('any', 'any'), ((0, 1, True), (0, 1, False))), (LEAF,), [LEAF],
]


class Model:
    """The rules and the wishes in lists, with all that was there before each call."""

    def __init__(self, signs, rules=(), wishes=(), before=()):
        self.signs = signs
        self.rules = list(rules)
        self.wishes = list(wishes)
        self.before = list(before)

    def do(self, name, *things):
        self.before.append((list(self.rules), list(self.wishes)))
        if name == 'add':
            self.rules.append(things[0])
        elif name == 'remove':
            del self.rules[things[0]]
        elif name == 'want':
            self.wishes.append(things)
        else:
            del self.wishes[things[0]]

    def undo(self, steps):
        for _ in range(steps):
            self.rules, self.wishes = self.before.pop()

    def copy(self):
        return Model(self.signs, self.rules, self.wishes, self.before)

    def failing(self, more=()):
        book = Book(self.signs, self.rules + list(more))
        known = {}
        return [at for at, (kind, tree, is_so) in enumerate(self.wishes) if (kind in plain_lot(book, tree, known)) is not is_so]

    def helping(self, rule):
        left = self.failing([rule])
        return [at for at in self.failing() if at not in left]


class DraftTest(unittest.TestCase):
    def check(self, draft, model, rules=()):
        """Check all that a draft shows beside lists, and that what is told is new."""
        book = Book(model.signs, model.rules)
        for _ in range(2):
            told, wishes, failing = draft.book, draft.wishes, draft.failing()
            self.assertEqual([type(told), type(wishes), type(failing)], [Book, list, list])
            self.assertEqual([told, wishes, failing, len(draft)], [book, model.wishes, model.failing(), len(model.before)])
            told.rules.clear()
            wishes.append(None)
            wishes.reverse()
            failing.append(None)
        for rule in rules:
            helping = draft.helping(rule)
            self.assertEqual(helping, model.helping(rule))
            helping.append(None)
        self.assertEqual([draft.book, draft.wishes, draft.failing(), len(draft)], [book, model.wishes, model.failing(), len(model.before)])

    def do(self, draft, model, name, *things):
        self.assertIs(getattr(draft, name)(*things), None)
        model.do(name, *things)

    def test_empty(self):
        for signs in [SIGNS, ALL_SIGNS, {'f': 2}]:
            draft, model = Draft(signs), Model(signs)
            self.check(draft, model)
            for name in ['remove', 'drop']:
                for index in INDEXES + [0]:
                    with self.assertRaises(InvalidNumber):
                        getattr(draft, name)(index)
            with self.assertRaises(NothingToUndo):
                draft.undo()
            self.check(draft, model)

    def test_each_call_and_undo_of_it(self):
        calls = [
            ('add', LEAF), ('want', 'any', A, True), ('add', OTHER), ('want', 'any', FAB, True), ('want', 'none', A, False), ('add', HIGH),
            ('want', 'twin', FAA, True), ('want', 'twin', FAB, False), ('remove', 1), ('add', TWIN), ('drop', 1), ('want', 'any', A, True),
            ('add', OTHER), ('drop', 0), ('remove', 0), ('add', LEAF), ('remove', 4 - 1), ('drop', 3), ('remove', 0), ('want', 'none', FAA, True),
        ]
        rules = [LEAF, OTHER, HIGH, TWIN, ('none', 'f', ('any', 'any'), ()), ('none', 'a', (), ())]
        draft, model = Draft(SIGNS), Model(SIGNS)
        for call in calls:
            self.do(draft, model, *call)
            self.check(draft, model, rules)
        for steps in [1, 2, 1, 5, 3, 1, 1]:
            self.assertIs(draft.undo(steps=steps), None)
            model.undo(steps)
            self.check(draft, model, rules)
        # What is done behind an undo is taken back by itself.
        for call in [('drop', 0), ('add', TWIN), ('remove', 0)]:
            self.do(draft, model, *call)
        draft.undo()
        model.undo(1)
        self.check(draft, model, rules)
        self.do(draft, model, 'want', 'twin', FAA, True)
        draft.undo(steps=len(draft))
        model.undo(len(model.before))
        self.check(draft, model, rules)
        self.assertEqual([draft.book, draft.wishes, len(draft)], [Book(SIGNS, []), [], 0])

    def test_undo_in_the_middle(self):
        draft, model = Draft(SIGNS), Model(SIGNS)
        for rule in [LEAF, OTHER, HIGH, TWIN]:
            self.do(draft, model, 'add', rule)
        for tree in [A, B, FAA, FAB]:
            self.do(draft, model, 'want', 'any', tree, True)
        for name in ['remove', 'drop']:
            for index in range(4):
                self.do(draft, model, name, index)
                self.check(draft, model)
                draft.undo()
                model.undo(1)
                self.check(draft, model)
        for name, index in [('remove', 1), ('drop', 2), ('remove', 0), ('drop', 0), ('remove', 1), ('drop', 1)]:
            self.do(draft, model, name, index)
        draft.undo(steps=6)
        model.undo(6)
        self.check(draft, model)

    def test_steps(self):
        draft, model = Draft(SIGNS), Model(SIGNS)
        for rule in [LEAF, OTHER, HIGH]:
            self.do(draft, model, 'add', rule)
        for steps in [0, -1, -3, True, False, None, '1', 1.0, [1], (1,)] + [thing for thing in odd_objects() if thing not in [41, 2001, 10 ** 40 - 1]]:
            with self.subTest(steps=str(steps)[:60]):
                with self.assertRaises(InvalidNumber):
                    draft.undo(steps=steps)
        for steps in [4, 5, 41, 10 ** 40 - 1]:
            with self.assertRaises(NothingToUndo):
                draft.undo(steps=steps)
        self.check(draft, model)
        with self.assertRaises(TypeError):
            draft.undo(2)
        draft.undo(steps=3)
        for steps in [0, True]:
            with self.assertRaises(InvalidNumber):
                draft.undo(steps=steps)
        for steps in [1, 2]:
            with self.assertRaises(NothingToUndo):
                draft.undo(steps=steps)
        self.assertEqual(len(draft), 0)

    def test_errors(self):
        for thing in odd_objects():
            with self.assertRaises(InvalidSigns) as caught:
                Draft(thing)
            self.assertIs(type(caught.exception), InvalidSigns)
        draft, model = Draft(SIGNS), Model(SIGNS)
        for rule in [LEAF, HIGH]:
            self.do(draft, model, 'add', rule)
        for tree in [A, FAA]:
            self.do(draft, model, 'want', 'any', tree, True)
        trees = [thing for thing in odd_objects()] + [('s', A), ['a'], 'a', ('f', A), ('f', A, ['a'])]
        bools = [thing for thing in odd_objects() if not isinstance(thing, bool)] + [0, 1, 'True', [], (True,)]
        for thing in NO_RULES + odd_objects():
            for call in [draft.add, draft.helping]:
                with self.assertRaises(InvalidRule) as caught:
                    call(thing)
                self.assertIs(type(caught.exception), InvalidRule)
        for thing in ODD_NAMES + odd_objects():
            for tree in [A, 'a', None]:
                for is_so in [True, 1]:
                    with self.assertRaises(InvalidKind):
                        draft.want(thing, tree, is_so)
        for thing in trees:
            for is_so in [True, 1, None]:
                with self.assertRaises(InvalidTree):
                    draft.want('any', thing, is_so)
        for thing in bools:
            for kind in ['any', 'none']:
                with self.assertRaises(InvalidValue):
                    draft.want(kind, FAB, thing)
        for thing in odd_objects() + INDEXES + [2, 3]:
            for call in [draft.remove, draft.drop]:
                with self.assertRaises(InvalidNumber):
                    call(thing)
        self.check(draft, model)

    def test_failing_and_helping(self):
        draft, model = Draft(SIGNS), Model(SIGNS)
        wishes = [('any', A, True), ('any', FAB, True), ('twin', FAB, False), ('twin', FAA, True), ('nosuch', A, True), ('nosuch', A, False),
                  ('odd', FAA, False), ('odd', FAB, True), ('any', ('f', FAA, FAA), True), ('twin', ('f', FAA, FAA), True), ('any', A, False)]
        for wish in wishes:
            self.do(draft, model, 'want', *wish)
        rules = [LEAF, OTHER, HIGH, TWIN, ('odd', 'f', ('any', 'any'), ((0, 1, False),)), ('odd', 'f', ('any', 'any'), ()),
                 ('nosuch', 'a', (), ()), ('twin', 'f', ('any', 'any'), ())]
        self.assertEqual(draft.failing(), [0, 1, 3, 4, 7, 8, 9])
        self.check(draft, model, rules)
        for rule in [LEAF, OTHER, HIGH, TWIN]:
            self.do(draft, model, 'add', rule)
            self.check(draft, model, rules)
        self.assertEqual(draft.failing(), [4, 7, 10])
        # One rule meets one wish and breaks another one: it helps, and then fails elsewhere.
        rule = ('odd', 'f', ('any', 'any'), ())
        self.assertEqual([draft.helping(rule), draft.add(rule), draft.failing(), draft.undo()], [[7], None, [4, 6, 10], None])
        self.assertEqual([draft.helping(rules[4]), draft.helping(rules[6]), draft.helping(rules[7])], [[7], [4], []])
        self.assertEqual([draft.failing(), len(draft)], [[4, 7, 10], 15])

    def test_arguments_are_copied_and_what_was_told_stays(self):
        signs = dict(SIGNS)
        draft = Draft(signs)
        signs['c'] = 0
        self.assertEqual(draft.book.signs, SIGNS)
        with self.assertRaises(InvalidRule):
            draft.add(('any', 'c', (), ()))
        draft.add(LEAF)
        draft.want('any', A, True)
        book, wishes = draft.book, draft.wishes
        draft.add(OTHER)
        draft.drop(0)
        draft.undo(steps=4)
        self.assertEqual([book, wishes], [Book(SIGNS, [LEAF]), [('any', A, True)]])

    def test_copies(self):
        chance = random.Random(221)
        drafts = [(Draft(SIGNS), Model(SIGNS))]
        for _ in range(300):
            draft, model = chance.choice(drafts)
            if chance.random() < 0.06 and len(drafts) < 10:
                drafts.append((draft.copy(), model.copy()))
                self.assertIs(type(drafts[-1][0]), Draft)
            else:
                self.step(chance, draft, model)
            self.check(draft, model)
        for draft, model in drafts:
            self.check(draft, model, [LEAF, HIGH])
            if len(draft) > 0:
                draft.undo(steps=len(draft))
                model.undo(len(model.before))
            self.check(draft, model)

    def step(self, chance, draft, model):
        """Do something to both that can be done."""
        names = ['k', 'l', 'any']
        name = chance.choice(['add', 'add', 'add', 'want', 'want', 'want', 'remove', 'drop', 'undo'])
        if name == 'add':
            sign = chance.choice(sorted(model.signs))
            many = model.signs[sign]
            asks = chance.choice([(), (), ((0, 1, True),), ((0, 1, False),)]) if many > 1 else ()
            self.do(draft, model, 'add', (chance.choice(names), sign, tuple(chance.choices(names, k=many)), asks))
        elif name == 'want':
            tree = chance.choice(TREES[tuple(model.signs)])
            self.do(draft, model, 'want', chance.choice(names + ['nosuch']), tree, chance.choice([True, False]))
        elif name == 'remove' and model.rules:
            self.do(draft, model, 'remove', chance.randrange(len(model.rules)))
        elif name == 'drop' and model.wishes:
            self.do(draft, model, 'drop', chance.randrange(len(model.wishes)))
        elif name == 'undo' and model.before:
            steps = chance.randint(1, min(4, len(model.before)))
            draft.undo(steps=steps)
            model.undo(steps)

    def test_a_thousand_calls(self):
        chance = random.Random(222)
        for signs in [SIGNS, ALL_SIGNS]:
            draft, model = Draft(signs), Model(signs)
            for at in range(1000):
                self.step(chance, draft, model)
                if at % 40 == 0:
                    self.check(draft, model, [('k', 'a', (), ())])
            self.check(draft, model)
        draft = Draft(SIGNS)
        for _ in range(1000):
            draft.add(HIGH)
        self.assertEqual([len(draft), len(draft.book), draft.failing()], [1000, 1000, []])
        draft.undo(steps=999)
        self.assertEqual([len(draft), draft.book.rules], [1, [HIGH]])
        for _ in range(999):
            draft.want('any', FAB, True)
        self.assertEqual([draft.failing(), draft.helping(LEAF)], [list(range(999)), []])

    def test_great_trees(self):
        draft = Draft(SIGNS)
        for rule in ANY_RULES + [TWIN]:
            draft.add(rule)
        trees = [wide_tree(4999), grown(A, lambda tree: ('f', tree, B), 39), grown(A, lambda tree: ('f', tree, tree), 10)]
        for tree in trees:
            for kind in ['any', 'twin']:
                for is_so in [True, False]:
                    draft.want(kind, tree, is_so)
        wanted = [at for at, (kind, tree, is_so) in enumerate(draft.wishes) if is_of(draft.book, kind, tree) is not is_so]
        self.assertEqual(draft.failing(), wanted)

    def test_what_a_draft_tells_beside_its_book(self):
        draft = Draft(SIGNS)
        for rule in example_book().rules:
            draft.add(rule)
        self.assertEqual(draft.book, example_book())
        self.assertNotEqual(draft, example_book())
        for tree in [A, B, FAA, FAB]:
            for kind in ['any', 'twin', 'full', 'nosuch']:
                draft.want(kind, tree, is_of(draft.book, kind, tree))
        self.assertEqual(draft.failing(), [])

    def test_parameters_by_name(self):
        draft = Draft(signs=SIGNS)
        self.assertEqual([draft.add(rule=LEAF), draft.want(is_so=True, tree=B, kind='any'), draft.helping(rule=OTHER)], [None, None, [0]])
        self.assertEqual([draft.drop(index=0), draft.remove(index=0), len(draft), draft.undo(steps=1), draft.undo()], [None, None, 4, None, None])
        self.assertEqual([draft.book.rules, draft.wishes], [[LEAF], [('any', B, True)]])


TREES = {tuple(signs): [tree for row in plain_trees(signs, 5).values() for tree in row] for signs in [SIGNS, ALL_SIGNS]}


if __name__ == '__main__':
    unittest.main()
