"""The shell, line by line, beside the plain functions."""

import unittest
from itertools import product

from likeboughs.beside import holds, parting
from likeboughs.books import Book
from likeboughs.counting import count
from likeboughs.errors import InvalidKind, InvalidLine, InvalidMatch, InvalidName, InvalidNumber, InvalidTree, ParseError, UnknownName
from likeboughs.finite import is_finite
from likeboughs.made import least_size
from likeboughs.needless import needless_asks, needless_rules
from likeboughs.plain import needs_asks
from likeboughs.readings import is_of, lot_of
from likeboughs.shell import Shell
from likeboughs.surroundings import are_kin
from likeboughs.tables import counts
from likeboughs.texts import format_book, format_tree
from tests.plain import plain_trees, random_books
from tests.samples import ANY_RULES, SIGNS, asking_book, example_book, odd_objects, short_book

SHORT = 'signs_a:0_b:0_f:2/leaf_=_a/leaf_=_b/pair_=_f(leaf,leaf)_0!1'
WORDS = {'book': 2, 'of': 3, 'lot': 2, 'counts': 1, 'made': 2, 'end': 2, 'count': 3, 'holds': 4, 'alike': 4, 'asks': 2, 'kin': 4, 'needless': 2, 'names': 0}
# A fine line for each first word, with the book "one".
FINE = {
    'of': 'of one pair f(a,b)', 'lot': 'lot one f(a,a)', 'counts': 'counts one', 'made': 'made one pair', 'end': 'end one pair', 'count': 'count one pair 3',
    'holds': 'holds one pair one leaf', 'alike': 'alike one pair one leaf', 'asks': 'asks one pair', 'kin': 'kin one pair a b', 'needless': 'needless one pair',
    'names': 'names', 'book': 'book one ' + SHORT,
}


def word_of(book):
    """The text of a book as one word."""
    return format_book(book).replace(' ', '_').replace('\n', '/')


def yes_or_no(is_so):
    return 'yes' if is_so else 'no'


def shell_of(**books):
    shell = Shell()
    for name, book in books.items():
        if shell.run(f'book {name} {word_of(book)}') != 'ok':
            raise AssertionError(name)
    return shell


class ShellTest(unittest.TestCase):
    def refuse(self, shell, line, error):
        """Check that a line is refused by an error of just this class, and changes nothing."""
        names = shell.run('names')
        with self.assertRaises(error) as caught:
            shell.run(line)
        self.assertIs(type(caught.exception), error)
        self.assertEqual(shell.run('names'), names)
        return caught.exception

    def check(self, shell, line, wanted):
        told = shell.run(line)
        self.assertIs(type(told), str)
        self.assertEqual(told, wanted, line)

    def check_kind(self, shell, name, book, kind):
        """Check all lines about a kind of a book, by itself."""
        self.check(shell, f'made {name} {kind}', str(least_size(book, kind) or 'no'))
        self.check(shell, f'end {name} {kind}', yes_or_no(is_finite(book, kind)))
        self.check(shell, f'asks {name} {kind}', yes_or_no(needs_asks(book, kind)))
        for size in [1, 2, 3, 7, 9, 10, 40]:
            self.check(shell, f'count {name} {kind} {size}', str(count(book, kind, size)))
        words = [str(index) for index in needless_rules(book, kind)] + [f'{index}.{ask}' for index, ask in needless_asks(book, kind)]
        self.check(shell, f'needless {name} {kind}', ' '.join(words) or 'none')

    def check_trees(self, shell, name, book, trees):
        for tree in trees:
            text = format_tree(book.signs, tree)
            self.check(shell, f'lot {name} {text}', '+'.join(lot_of(book, tree)) or '-')
            for kind in book.kinds + ['none']:
                self.check(shell, f'of {name} {kind} {text}', yes_or_no(is_of(book, kind, tree)))
        for kind in book.kinds + ['none']:
            for one, other in product(trees[:6], repeat=2):
                told = yes_or_no(are_kin(book, kind, one, other))
                self.check(shell, f'kin {name} {kind} {format_tree(book.signs, one)} {format_tree(book.signs, other)}', told)

    def check_book(self, shell, name, book):
        told = ' '.join(f'{"+".join(lot) or "-"}={number}' for lot, number in counts(book).items())
        self.check(shell, f'counts {name}', told)
        for kind in book.kinds + ['none']:
            self.check_kind(shell, name, book, kind)
        self.check_trees(shell, name, book, [tree for row in plain_trees(book.signs, 5).values() for tree in row][:12])

    def check_beside(self, shell, names, books):
        for kind in books[0].kinds + ['none']:
            for other in books[1].kinds:
                tree = parting(books[0], kind, books[1], other)
                size = 'yes' if tree is None else str(len(str(tree).split("'")) // 2)
                self.check(shell, f'alike {names[0]} {kind} {names[1]} {other}', size)
                self.check(shell, f'holds {names[0]} {kind} {names[1]} {other}', yes_or_no(holds(books[0], kind, books[1], other)))

    def test_books_of_the_samples(self):
        shell = shell_of(one=example_book(), two=short_book(), three=asking_book())
        self.check(shell, 'names', 'one three two')
        for name, book in [('one', example_book()), ('two', short_book())]:
            self.check_book(shell, name, book)
        self.check_trees(shell, 'three', asking_book(), [('a',), ('s', ('a',)), ('g', ('a',), ('a',), ('s', ('a',)))])
        self.check_beside(shell, ['one', 'two'], [example_book(), short_book()])
        self.check_beside(shell, ['two', 'one'], [short_book(), example_book()])
        self.check_beside(shell, ['one', 'one'], [example_book()] * 2)

    def test_books_by_chance(self):
        for book, _ in random_books(241, 30):
            shell = shell_of(some=book)
            self.check_book(shell, 'some', book)
            self.check_beside(shell, ['some', 'some'], [book, book])

    def test_answers(self):
        shell = Shell()
        self.check(shell, 'names', '-')
        self.check(shell, 'book one ' + SHORT, 'ok')
        for line, wanted in [
            ('of one pair f(a,b)', 'yes'), ('of one pair f(a,a)', 'no'), ('of one none a', 'no'), ('lot one a', 'leaf'), ('lot one f(a,f(a,b))', '-'),
            ('counts one', '-=4 leaf=2 pair=2'), ('made one pair', '3'), ('made one none', 'no'), ('end one pair', 'yes'), ('count one pair 3', '2'),
            ('count one pair 40', '0'), ('holds one pair one leaf', 'no'), ('holds one pair one none', 'yes'), ('alike one pair one leaf', '1'),
            ('alike one pair one pair', 'yes'), ('alike one none one pair', '3'), ('asks one pair', 'no'), ('kin one pair a b', 'no'), ('kin one pair a a', 'yes'),
            ('needless one pair', 'none'), ('needless one leaf', '2 2.0'), ('needless one none', '0 1 2 2.0'), ('names', 'one'),
        ]:
            self.check(shell, line, wanted)
        shell = shell_of(one=example_book(), empty=Book({'f': 2}, []), leaves=Book({'a': 0}, []))
        self.check(shell, 'lot one f(a,a)', 'any+full+twin')
        self.check(shell, 'counts one', 'any=4 any+full=1 any+full+twin=4 any+twin=4')
        self.check(shell, 'counts empty', '')
        self.check(shell, 'counts leaves', '-=1')
        self.check(shell, 'asks one twin', 'yes')
        self.check(shell, 'end one twin', 'no')
        self.check(shell, 'count one any 39', '1853109766717440')
        self.check(shell, 'needless one full', '0 1 2 3 3.0')

    def test_names(self):
        shell = Shell()
        for name, wanted in [('b', 'b'), ('a', 'a b'), ('ab', 'a ab b'), ('abcdefgh', 'a ab abcdefgh b'), ('a', 'a ab abcdefgh b'), ('names', 'a ab abcdefgh b names')]:
            self.check(shell, f'book {name} {SHORT}', 'ok')
            self.check(shell, 'names', wanted)

    def test_a_book_put_anew(self):
        shell = shell_of(one=short_book(), two=short_book())
        self.check(shell, 'made one pair', '3')
        self.check(shell, 'book one signs_a:0/pair_=_a', 'ok')
        self.check(shell, 'made one pair', '1')
        self.check(shell, 'made two pair', '3')
        self.check(shell, 'names', 'one two')
        # A book that cannot be read leaves the one under the name.
        for text, line in [('signs_a:0/pair_=_b', 1), ('signs_a:0/', 1), ('signs_a:4', 0), ('pair', 0), ('signs_a:0/pair_=_a/pair_=_a_', 2), ('signs_a:0//pair_=_a', 1),
                           ('signs_a:0/pair_=__a', 1), ('/', 0), ('_', 0), ('signs_a:0/pair=a', 1), ('signs_a:0\t', 0)]:
            self.assertEqual(self.refuse(shell, 'book one ' + text, ParseError).line, line)
            self.assertEqual(self.refuse(shell, 'book new ' + text, ParseError).line, line)
        self.check(shell, 'made one pair', '1')
        self.check(shell, 'names', 'one two')
        text = 'signs_a:0' + '/k_=_a' * 2001
        self.assertEqual(self.refuse(shell, 'book one ' + text, ParseError).line, 2001)
        self.check(shell, 'book one ' + text[:-6], 'ok')

    def test_two_shells(self):
        one, other = Shell(), Shell()
        self.check(one, 'book one ' + SHORT, 'ok')
        self.check(other, 'names', '-')
        self.refuse(other, 'counts one', UnknownName)
        self.check(other, 'book one signs_a:0', 'ok')
        self.check(one, 'counts one', '-=4 leaf=2 pair=2')
        self.check(other, 'counts one', '-=1')

    def test_no_lines(self):
        shell = shell_of(one=short_book())
        for line in FINE.values():
            words = line.split(' ')
            wrong = [line + ' ', ' ' + line, line + '\n', '\n' + line, line + ' a', line + ' ' + words[-1], line.replace(' ', '  ', 1) + ' ',
                     line.upper(), 'x' + line, words[0] + 's' + line[len(words[0]):], line.replace(' ', '\t', 1) if len(words) > 1 else 'names\t', '\t' + line,
                     line + ' \n', ' '.join(words[1:])]
            if len(words) > 1:
                wrong += [' '.join(words[:-1]), line.replace(' ', '  ', 1), words[0] + ' ' * len(words), line.replace(' ', '\n'), line + '\nx', line[:-1] + '\n' + line[-1]]
            for thing in wrong:
                with self.subTest(line=thing):
                    self.refuse(shell, thing, InvalidLine)
        for line in ['', ' ', '\n', '\t', 'x', 'a b c', 'help', 'Names', 'name', 'names names', 'book', 'book one', 'quit']:
            self.refuse(shell, line, InvalidLine)
        for thing in odd_objects() + [['names'], ('names',), {'names': 0}, b'names', shell]:
            with self.subTest(thing=str(thing)[:60]):
                self.refuse(shell, thing, InvalidLine)
        for word, many in WORDS.items():
            for number in range(7):
                line = ' '.join([word] + ['?'] * number)
                with self.assertRaises((InvalidLine, UnknownName, InvalidName) if number == many else InvalidLine):
                    if line != 'names':
                        shell.run(line)
                    else:
                        raise InvalidLine('a fine line')

    def test_words_with_tabs(self):
        shell = shell_of(one=short_book())
        for line, error in [('of one\t pair a', UnknownName), ('of one pair\t a', InvalidKind), ('of one pair a\t', InvalidTree), ('of one pair \ta', InvalidTree),
                            ('count one pair 3\t', InvalidNumber), ('book a\t ' + SHORT, InvalidName), ('book a ' + SHORT + '\t', ParseError), ('lot one f(a,\ta)', InvalidTree),
                            ('of\tone pair a', InvalidLine)]:
            self.refuse(shell, line, error)

    def test_errors_in_their_order(self):
        shell = shell_of(one=short_book(), two=Book({'a': 0}, [('leaf', 'a', (), ())]))
        names = [('One', UnknownName), ('none', UnknownName), ('abcdefghi', UnknownName), ('1', UnknownName)]
        kinds = [('Pair', InvalidKind), ('abcdefghi', InvalidKind), ('p1', InvalidKind), ('-', InvalidKind), ('pair,', InvalidKind)]
        trees = [('c', InvalidTree), ('f', InvalidTree), ('f(a)', InvalidTree), ('f(a,b', InvalidTree), ('f(a,b))', InvalidTree), ('A', InvalidTree), ('a,b', InvalidTree), ('f(a,_b)', InvalidTree)]
        sizes = [(word, InvalidNumber) for word in ['0', '41', '01', '1234567890', '-1', 'x', '+1', '1.0', '40.', '999999999', '00', '040', '1_0', '123456789', '3a', 'a3', '9' * 4000]]
        forms = {
            'of': [('one', names), ('pair', kinds), ('f(a,b)', trees)], 'lot': [('one', names), ('f(a,a)', trees)], 'counts': [('one', names)],
            'made': [('one', names), ('pair', kinds)], 'end': [('one', names), ('pair', kinds)], 'count': [('one', names), ('pair', kinds), ('3', sizes)],
            'asks': [('one', names), ('pair', kinds)], 'kin': [('one', names), ('pair', kinds), ('a', trees), ('b', trees)],
            'needless': [('one', names), ('pair', kinds)],
            'holds': [('one', names), ('pair', kinds), ('one', names), ('leaf', kinds)], 'alike': [('one', names), ('pair', kinds), ('one', names), ('leaf', kinds)],
        }
        order = [UnknownName, InvalidKind, InvalidTree, InvalidNumber]
        for word, form in forms.items():
            for row in product(*[[(fine, None)] + wrong[:2] for fine, wrong in form]):
                errors = [error for _, error in row if error is not None]
                line = ' '.join([word] + [told for told, _ in row])
                if errors:
                    self.refuse(shell, line, min(errors, key=order.index))
                else:
                    self.assertIs(type(shell.run(line)), str)
            for at, (_, wrong) in enumerate(form):
                for told, error in wrong:
                    words = [fine for fine, _ in form]
                    words[at] = told
                    self.refuse(shell, ' '.join([word] + words), error)
        for size in range(1, 41):
            self.check(shell, f'count one pair {size}', '2' if size == 3 else '0')

    def test_unlike_signs(self):
        shell = shell_of(one=short_book(), two=Book({'a': 0}, [('leaf', 'a', (), ())]), three=Book({'f': 2, 'b': 0, 'a': 0}, ANY_RULES))
        for word in ['holds', 'alike']:
            for line in [f'{word} one pair two leaf', f'{word} two leaf one pair', f'{word} two leaf three any']:
                self.refuse(shell, line, InvalidMatch)
            self.refuse(shell, f'{word} one Pair two leaf', InvalidKind)
            self.refuse(shell, f'{word} one pair two Leaf', InvalidKind)
            self.refuse(shell, f'{word} one Pair four leaf', UnknownName)
            self.refuse(shell, f'{word} five Pair two Leaf', UnknownName)
        self.check(shell, 'holds three any one pair', 'yes')
        self.check(shell, 'alike one leaf three any', '3')

    def test_errors_of_book(self):
        shell = Shell()
        for name in ['One', 'abcdefghi', 'a1', '-', '_', 'a_b', 'a/b', '0', 'ONE', 'one!']:
            for text in [SHORT, 'x', 'signs_a:4']:
                self.refuse(shell, f'book {name} {text}', InvalidName)
        self.assertEqual(self.refuse(shell, 'book one x', ParseError).line, 0)
        self.check(shell, 'names', '-')

    def test_parameters_by_name(self):
        self.assertEqual(Shell().run(line='names'), '-')

    def test_signs_are_told_in_any_order(self):
        shell = shell_of(one=Book(dict(reversed(SIGNS.items())), ANY_RULES))
        self.check(shell, 'of one any f(a,f(b,a))', 'yes')


if __name__ == '__main__':
    unittest.main()
