"""The package keeps to the rules of its language that can be read off the files at a glance."""

import ast
import builtins
import functools
import os
import unittest

import likeboughs

FOLDER = os.path.dirname(likeboughs.__file__)
LIBRARY = {
    'heapq': ['heappush', 'heappop', 'heapify', 'heapreplace', 'heappushpop'],
    'math': ['gcd', 'lcm', 'isqrt', 'comb', 'perm', 'factorial'],
    'itertools': ['product', 'combinations', 'permutations', 'chain', 'accumulate', 'pairwise', 'islice', 'zip_longest'],
    'collections': ['defaultdict', 'deque'],
}
BUILTINS = (
    'len range enumerate zip min max sum abs sorted reversed int str bool bytes list tuple dict set frozenset isinstance '
    'ord repr any all divmod pow getattr hasattr setattr map iter next type super property staticmethod classmethod '
    'Exception ValueError TypeError KeyError IndexError LookupError ZeroDivisionError ArithmeticError OverflowError '
    'RuntimeError NotImplementedError AttributeError StopIteration NotImplemented'
).split()
DUNDERS = (
    '__init__ __eq__ __repr__ __str__ __len__ __enter__ __exit__ __call__ __iter__ __lt__ __le__ __gt__ __ge__ __ne__ '
    '__or__ __and__ __add__ __sub__ __mul__ __contains__ __getitem__ __setitem__ __bool__'
).split()
BARRED_NODES = (
    ast.AsyncFor, ast.AsyncFunctionDef, ast.AsyncWith, ast.Await, ast.Global, ast.Div, ast.AnnAssign, ast.GeneratorExp,
    ast.Try, ast.Yield, ast.YieldFrom,
)
BARRED_WORDS = (
    'register mro elements open input law version_info with_traceback add_note eval exec compile globals locals vars '
    'dir id help exit quit print chr typing enum namedtuple dataclass sort update encode decode format'
).split()


@functools.cache
def sources():
    """The text and the tree of each file of the package by its name."""
    found = {}
    for name in sorted(os.listdir(FOLDER)):
        if name != '__pycache__':
            with open(os.path.join(FOLDER, name), encoding='utf-8', newline='') as file:
                text = file.read()
            found[name] = (text, ast.parse(text))
    return found


# A run of doctest leaves "_" among the builtins.
ALL_BUILTINS = [name for name in dir(builtins) if name != '_']


def bound_names(tree):
    """All names that a file binds, as variables, parameters, functions, classes or methods' parameters."""
    for node in ast.walk(tree):
        if isinstance(node, ast.Name) and not isinstance(node.ctx, ast.Load):
            yield node.id
        elif isinstance(node, ast.arg):
            yield node.arg
        elif isinstance(node, (ast.FunctionDef, ast.ClassDef)):
            yield node.name
        elif isinstance(node, ast.alias):
            yield node.asname or node.name


def imports_of(tree):
    return [node for node in ast.walk(tree) if isinstance(node, (ast.Import, ast.ImportFrom))]


class LanguageTest(unittest.TestCase):
    def test_files(self):
        for name, (text, _) in sources().items():
            self.assertRegex(name, '^[a-z0-9_]+[.]py$')
            self.assertTrue(all(letter == '\n' or ' ' <= letter <= '~' for letter in text))
            lines = text.split('\n')
            self.assertLessEqual(len(lines), 400)
            self.assertLessEqual(max(len(line) for line in lines), 120)
        self.assertIn('__init__.py', sources())

    def test_functions_are_small(self):
        for _, tree in sources().values():
            for node in ast.walk(tree):
                if isinstance(node, ast.FunctionDef):
                    self.assertLessEqual(node.end_lineno - node.lineno + 1, 40, node.name)

    def test_imports(self):
        for _, tree in sources().values():
            for node in imports_of(tree):
                self.assertIsInstance(node, ast.ImportFrom)
                self.assertEqual(node.level, 0)
                names = [alias.name for alias in node.names]
                if node.module.startswith('likeboughs.'):
                    there = sources()[node.module.partition('.')[2] + '.py'][1]
                    defined = [thing.name for thing in there.body if isinstance(thing, (ast.FunctionDef, ast.ClassDef))]
                    defined += [thing.targets[0].id for thing in there.body if isinstance(thing, ast.Assign)]
                    self.assertLessEqual(set(names), set(defined))
                else:
                    self.assertLessEqual(set(names), set(LIBRARY[node.module]))

    def test_no_ring_of_imports(self):
        reached = {}
        for name, (_, tree) in sources().items():
            modules = [node.module for node in imports_of(tree) if node.module.startswith('likeboughs.')]
            reached[name] = {module.partition('.')[2] + '.py' for module in modules}
        for _ in reached:
            for name in reached:
                reached[name] = reached[name].union(*[reached[other] for other in reached[name]])
        self.assertEqual([name for name in reached if name in reached[name]], [])

    def test_statements_and_expressions(self):
        for _, tree in sources().values():
            for node in ast.walk(tree):
                self.assertNotIsInstance(node, BARRED_NODES)
                if isinstance(node, ast.Constant):
                    self.assertNotIsInstance(node.value, (float, complex))
                    self.assertTrue(not isinstance(node.value, str) or '%' not in node.value)

    def test_names(self):
        for _, tree in sources().values():
            imported = [alias.name for node in imports_of(tree) for alias in node.names]
            classes = [node.name for node in tree.body if isinstance(node, ast.ClassDef)]
            for name in bound_names(tree):
                self.assertTrue(name in DUNDERS or not name.startswith('__'), name)
                self.assertNotIn(name, ALL_BUILTINS)
            for node in ast.walk(tree):
                if isinstance(node, ast.Name):
                    self.assertTrue(node.id not in ALL_BUILTINS or node.id in BUILTINS, node.id)
                    self.assertNotIn(node.id, BARRED_WORDS)
                    self.assertTrue(isinstance(node.ctx, ast.Load) or node.id not in imported + classes, node.id)
                elif isinstance(node, ast.Attribute):
                    self.assertNotIn(node.attr, BARRED_WORDS)
                elif isinstance(node, ast.arg):
                    self.assertNotIn(node.arg, imported + classes + BARRED_WORDS)

    def test_module_level(self):
        for _, tree in sources().values():
            for node in tree.body:
                is_docstring = isinstance(node, ast.Expr) and isinstance(node.value, ast.Constant)
                plain = (ast.ImportFrom, ast.FunctionDef, ast.ClassDef, ast.Assign)
                self.assertTrue(is_docstring or isinstance(node, plain), ast.dump(node)[:80])

    def test_properties_share_no_name(self):
        functions = [node for _, tree in sources().values() for node in ast.walk(tree) if isinstance(node, ast.FunctionDef)]
        properties = [node.name for node in functions if node.decorator_list]
        methods = [node.name for _, tree in sources().values() for made in ast.walk(tree) if isinstance(made, ast.ClassDef)
                   for node in made.body if isinstance(node, ast.FunctionDef)]
        stored = [node.attr for _, tree in sources().values() for node in ast.walk(tree)
                  if isinstance(node, ast.Attribute) and not isinstance(node.ctx, ast.Load)]
        self.assertGreater(len(properties), 0)
        for name in properties:
            self.assertEqual(methods.count(name), properties.count(name), name)
            self.assertNotIn(name, stored)

    def test_decorators(self):
        for _, tree in sources().values():
            for node in ast.walk(tree):
                if isinstance(node, (ast.FunctionDef, ast.ClassDef)):
                    for decorator in node.decorator_list:
                        self.assertIn(ast.unparse(decorator), ['property', 'staticmethod', 'classmethod'])


if __name__ == '__main__':
    unittest.main()
