"""The interface of the document: each name stands in its file, with its parameters."""

import importlib
import inspect
import unittest

from likeboughs.books import Book
from likeboughs.draft import Draft
from likeboughs.reader import Reader
from likeboughs.shell import Shell

FUNCTIONS = {
    'trees': 'is_signs(thing) is_tree(signs,thing) size(signs,tree) depth(signs,tree) parts(signs,tree) is_less(signs,one,other) '
             'trees_of_size(signs,size)',
    'books': 'is_rule(signs,thing)',
    'readings': 'lot_of(book,tree) is_of(book,kind,tree) reading(book,kind,tree) is_reading(book,kind,tree,thing)',
    'steps': 'patterns(many) pattern_of(signs,trees) step(book,sign,lots,pattern)',
    'tables': 'counts(book) table(book) is_table(book,thing)',
    'made': 'is_made(book,kind) least_size(book,kind) least(book,kind)',
    'finite': 'is_finite(book,kind) all_trees(book,kind) ring(book,kind) is_ring(book,kind,thing)',
    'beside': 'holds(one,kind,other,other_kind) parting(one,kind,other,other_kind) are_alike(one,kind,other,other_kind)',
    'counting': 'count(book,kind,size) listed(book,kind,size) tree_at(book,kind,size,index) place_of(book,kind,tree)',
    'joined': 'joined(one,kind,other,other_kind) common(one,kind,other,other_kind) without(one,kind,other,other_kind) opposite(book,kind)',
    'cuts': 'cut(book,kind,size) of_trees(signs,trees)',
    'needless': 'without_rule(book,index) without_ask(book,index,ask) needless_rules(book,kind) needless_asks(book,kind)',
    'additions': 'with_asks(book,additions) least_additions(book,kind,tree)',
    'surroundings': 'is_frame(signs,thing) filled(signs,frame,tree) parter(book,kind,one,other) is_parter(book,kind,one,other,thing) '
                    'are_kin(book,kind,one,other)',
    'plain': 'needs_asks(book,kind) plain(book,kind) parted_row(book,kind,many) is_parted_row(book,kind,thing)',
    'nets': 'is_net(signs,thing) net_sizes(signs,net) same_nodes(signs,net) least_net(signs,net) net_lots(book,net) net_of(signs,tree) '
            'tree_of(signs,net)',
    'texts': 'format_tree(signs,tree) format_rule(signs,rule) format_net(signs,net) format_book(book) parse_tree(signs,text) '
             'parse_rule(signs,text) parse_net(signs,text) parse_book(text)',
}
CLASSES = {
    ('books', 'Book'): ('signs,rules', 'rules_of(kind) renamed(names) __len__() __eq__(other) __or__(other)', 'signs rules kinds'),
    ('reader', 'Reader'): ('book', 'put(sign) again(index) undo() copy() __len__()', 'lots sizes same'),
    ('draft', 'Draft'): ('signs', 'add(rule) remove(index) want(kind,tree,is_so) drop(index) undo(*,steps=1) failing() helping(rule) copy() '
                                  '__len__()', 'book wishes'),
    ('shell', 'Shell'): ('', 'run(line)', ''),
}
ERRORS = (
    'InvalidAdditions InvalidBook InvalidFrame InvalidKind InvalidLine InvalidLots InvalidMatch InvalidName InvalidNames InvalidNet '
    'InvalidNumber InvalidPattern InvalidRule InvalidRules InvalidSigns InvalidTree InvalidTrees InvalidValue NothingToUndo PlainKind '
    'TooFew TooMany UnknownName UnknownSign'
)


def told(form):
    """The name and the parameters that a form like "size(signs,tree)" tells."""
    name, _, rest = form.partition('(')
    return name, [part for part in rest[:-1].split(',') if part]


def parameters(function, skip=0):
    """The parameters of a function, as in a form."""
    found = []
    for parameter in list(inspect.signature(function).parameters.values())[skip:]:
        if parameter.kind == parameter.KEYWORD_ONLY:
            found += ['*', f'{parameter.name}={parameter.default}']
        else:
            found.append(parameter.name)
    return found


class InterfaceTest(unittest.TestCase):
    def test_functions(self):
        for file, forms in FUNCTIONS.items():
            module = importlib.import_module('likeboughs.' + file)
            for name, names in map(told, forms.split()):
                with self.subTest(file=file, name=name):
                    function = getattr(module, name)
                    self.assertTrue(inspect.isfunction(function))
                    self.assertEqual([function.__module__, function.__name__], [module.__name__, name])
                    self.assertEqual(parameters(function), names)

    def test_classes(self):
        for (file, name), (first, methods, properties) in CLASSES.items():
            module = importlib.import_module('likeboughs.' + file)
            made = getattr(module, name)
            self.assertTrue(inspect.isclass(made))
            self.assertEqual([made.__module__, made.__name__], [module.__name__, name])
            self.assertEqual(parameters(made), [part for part in first.split(',') if part])
            for method, names in map(told, methods.split()):
                with self.subTest(name=name, method=method):
                    # In the class itself, not in a base class.
                    self.assertTrue(inspect.isfunction(vars(made)[method]))
                    self.assertEqual(parameters(vars(made)[method], 1), names)
            for attribute in properties.split():
                self.assertIsInstance(vars(made)[attribute], property)

    def test_classes_with_parameters_by_name_in_another_order(self):
        book = Book(rules=[('k', 'a', (), ()), ('l', 'a', (), ())], signs={'a': 0})
        self.assertEqual([book.rules_of(kind='l'), book.renamed(names={'k': 'm'}).kinds], [[1], ['l', 'm']])
        reader = Reader(book=book)
        self.assertEqual([reader.put(sign='a'), reader.again(index=0)], [('k', 'l')] * 2)
        draft = Draft(signs={'a': 0})
        self.assertEqual([draft.want(is_so=True, kind='k', tree=('a',)), draft.helping(rule=book.rules[0]), draft.undo(steps=1)], [None, [0], None])
        self.assertEqual([draft.add(rule=book.rules[0]), draft.remove(index=0), len(draft)], [None, None, 2])
        self.assertEqual(Shell().run(line='names'), '-')

    def test_errors(self):
        module = importlib.import_module('likeboughs.errors')
        self.assertEqual([module.BoughError.__bases__, module.ParseError.__bases__], [(ValueError,), (module.BoughError,)])
        for name in ERRORS.split():
            error = getattr(module, name)
            self.assertEqual([error.__name__, error.__module__, error.__bases__], [name, 'likeboughs.errors', (module.BoughError,)])
            self.assertEqual(str(error('why')), 'why')
        for line in [0, 7]:
            self.assertEqual(module.ParseError(line).line, line)


if __name__ == '__main__':
    unittest.main()
