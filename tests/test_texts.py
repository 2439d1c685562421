"""Texts of trees, rules, nets and books: written, read, and refused."""

import random
import unittest

from likeboughs.books import Book
from likeboughs.errors import InvalidBook, InvalidNet, InvalidRule, InvalidSigns, InvalidTree, ParseError
from likeboughs.nets import net_of
from likeboughs.texts import format_book, format_net, format_rule, format_tree, parse_book, parse_net, parse_rule, parse_tree
from likeboughs.trees import is_tree
from tests.plain import plain_trees, random_books
from tests.samples import A, ALL_SIGNS, ANY_RULES, B, SIGNS, asking_book, example_book, grown, odd_objects, part_book, short_book, wide_tree

FAB = ('f', A, B)
TREES = [
    (A, 'a'), (('s', A), 's(a)'), (('f', A, ('s', A)), 'f(a,s(a))'), (('g', A, A, A), 'g(a,a,a)'),
    (('g', ('f', A, ('s', A)), A, ('g', A, A, ('s', A))), 'g(f(a,s(a)),a,g(a,a,s(a)))'),
]
RULES = [
    (('k', 'a', (), ()), 'k = a'), (('abcdefgh', 's', ('zzzzzzzz',), ()), 'abcdefgh = s(zzzzzzzz)'), (('k', 'f', ('l', 'm'), ()), 'k = f(l,m)'),
    (('k', 'f', ('l', 'm'), ((0, 1, True),)), 'k = f(l,m) 0=1'), (('k', 'f', ('l', 'm'), ((0, 1, False),)), 'k = f(l,m) 0!1'),
    (('k', 'f', ('l', 'm'), ((0, 1, False), (0, 1, True))), 'k = f(l,m) 0!1 0=1'), (('k', 'g', ('k', 'k', 'k'), ()), 'k = g(k,k,k)'),
    (('k', 'g', ('k', 'l', 'k'), ((0, 1, True), (0, 2, False), (1, 2, False))), 'k = g(k,l,k) 0=1 0!2 1!2'),
    (('k', 'g', ('k', 'l', 'k'), ((0, 2, True), (1, 2, False), (1, 2, True))), 'k = g(k,l,k) 0=2 1!2 1=2'),
]
NETS = [
    ([('a',)], 'a'), ([('a',), ('s', 0)], 'a s:0'), ([('a',), ('a',), ('f', 0, 1), ('g', 2, 2, 0), ('a',)], 'a a f:0:1 g:2:2:0 a'),
    ([('a',)] + [('f', at, at // 2) for at in range(199)], ' '.join(['a'] + [f'f:{at}:{at // 2}' for at in range(199)])),
    ([('a',)] + [('g', at, 0, at) for at in range(150)], ' '.join(['a'] + [f'g:{at}:0:{at}' for at in range(150)])),
]
ODD_TEXTS = ['', ' ', 'a ', ' a', 'a\n', '\na', 'a\t', 'A', 'b', 'aa', 'a a', 'a,a', 'a()', 'a(a)', '(', ')', ',', '()', '(a)', 'a)', 'a(', 'a,']
NO_TREES = ODD_TEXTS + [
    's', 's()', 's(a', 's(a))', 's((a)', 's((a))', 's(a,a)', 's(a,)', 's(,a)', 's(,)', 's a', 's (a)', 's( a)', 's(a )', 's(a) ', ' s(a)', 's(a)\n', 's\n(a)',
    's\t(a)', 'f(a,a', 'f(a,a)a', 'f(a,a),a', 'f(a,a)(a,a)', 'f(a)', 'f(a,a,a)', 'f(a,,a)', 'f(aa)', 'f(a a)', 'f(a;a)', 'f[a,a]', 'f(a, a)', 'f(a,s)', 'f(a,b)',
    'F(a,a)', 'f(a,f(a,a)', 'f(f(a,a,a)', 'f(f(a,a))', 'f)a,a(', 'ff(a,a)', 'f(a,a)f(a,a)', "('a',)", 'f:a:a', 'a' * 5000, 'f(' * 40, '(' * 5000, ')' * 5000,
    's(' * 39 + 'a' + ')' * 38, 's(' * 39 + 'a' + ')' * 40, 'end', 's(a)end', 'None', '{}', '{a}', '0',
]
NO_RULES = ODD_TEXTS + [
    'k', 'k =', 'k = ', 'k=a', 'k= a', 'k =a', 'k  = a', 'k =  a', ' k = a', 'k = a ', 'k = a\n', '\nk = a', 'k\t= a', 'k = a\t', 'k == a', 'k : a', 'K = a', 'k = A',
    'k = b', 'k = a()', 'k = a(k)', 'k = s', 'k = s()', 'k = s(k', 'k = s(kk', 'k = sk)', 'k = s(k))', 'k = s((k)', 'k = s(k,k)', 'k = s(k,)', 'k = s(,k)', 'k = s(K)',
    'k = s(k1)', 'k = s (k)', 'k = s(k) ', 'abcdefghi = a', 'k = s(abcdefghi)', ' = a', '= a', 'k = s( k)', 'k = f(k, k)', 'k = f(k k)', 'k = f(k,k)0=1',
    'k = f(k,k)  0=1', 'k = f(k,k) 0=1 ', 'k = f(k,k) 0 = 1', 'k = f(k,k) 0==1', 'k = f(k,k) 0!=1', 'k = f(k,k) 0<1', 'k = f(k,k) 1=0', 'k = f(k,k) 0=0',
    'k = f(k,k) 1!1', 'k = f(k,k) 0=2', 'k = f(k,k) 0=1 0=1', 'k = f(k,k) 0=1 0!1', 'k = f(k,k) 00=1', 'k = f(k,k) 0=01', 'k = f(k,k) +0=1', 'k = f(k,k) 0=+1',
    'k = f(k,k) -0=1', 'k = f(k,k) 0=', 'k = f(k,k) =1', 'k = f(k,k) =', 'k = f(k,k) 01', 'k = f(k,k) 0=1=2', 'k = f(k,k) 0=1,0!1', 'k = f(k,k) a=b',
    'k = g(k,k,k) 0=2 0=1', 'k = g(k,k,k) 1=2 0=2', 'k = g(k,k,k) 0=3', 'k = g(k,k,k) 0!1 0=1 0!1', 'k = g(k,k)', 'k = g(k,k,k,k)', 'k = f(k,k,k)', 'k = a 0=1',
    'k = s(k) 0=1', 'k = s(k) 0=0', 'k = f(k,k)\n0=1', 'k = f(k,k) 0=1\n', 'k = f(k,k) 0=1\t', 'k = f(k,k)) 0=1', 'k = f k,k', 'l k = a', 'k = a = a', '_ = a', 'k_=_a',
]
NO_NETS = ODD_TEXTS[:7] + ODD_TEXTS[7:10] + [
    'a  a', 'a:0', 'a:', ':', ':a', 's', 's:0', 'a s', 'a s:', 'a s:1', 'a s:2', 'a s:0:0', 'a s:00', 'a s:+0', 'a s:-0', 'a s:-1', 'a s: 0', 'a s :0', 'a s:0 ', ' a s:0',
    'a s:0\n', 'a\ns:0', 'a\ts:0', 'a s:a', 'a s:0x', 'a s:0.', 'a s:0,', 'a,s:0', 'a f:0', 'a f:0:0:0', 'a f:0,0', 'a f(0,0)', 'a f::0', 'a f:0:', 'a f:0:1', 'a A',
    'a b', 'a s:True', 'a s:_0', 'a s:0_0', 'a ' + 's:0' * 2, 'a s:' + '9' * 5000, 'a s:' + '0' * 5000, ' '.join(['a'] * 201), ' '.join(['a'] * 101 + ['s:0100']),
    ' '.join(['a'] * 5 + ['s:05']), ' '.join(['a'] * 12 + ['s:012']), "[('a',)]",
]


class FormatTest(unittest.TestCase):
    def test_trees(self):
        for tree, text in TREES:
            self.assertEqual(format_tree(ALL_SIGNS, tree), text)
        self.assertEqual(format_tree({'abcdefgh': 2, 'z': 0}, ('abcdefgh', ('z',), ('z',))), 'abcdefgh(z,z)')

    def test_rules(self):
        for rule, text in RULES:
            self.assertEqual(format_rule(ALL_SIGNS, rule), text)

    def test_nets(self):
        for net, text in NETS:
            self.assertEqual(format_net(ALL_SIGNS, net), text)

    def test_books(self):
        self.assertEqual(format_book(Book({'a': 0}, [])), 'signs a:0')
        self.assertEqual(format_book(Book({'f': 2, 'b': 0, 'a': 0}, [])), 'signs a:0 b:0 f:2')
        signs = {sign: at % 4 for at, sign in enumerate(['h', 'gg', 'abcdefgh', 'd', 'e', 'c', 'bb', 'b'])}
        self.assertEqual(format_book(Book(signs, [])), 'signs abcdefgh:2 b:3 bb:2 c:1 d:3 e:0 gg:1 h:0')
        self.assertEqual(format_book(example_book()), '\n'.join([
            'signs a:0 b:0 f:2', 'any = a', 'any = b', 'any = f(any,any)', 'twin = f(any,any) 0=1', 'full = a', 'full = f(full,full) 0=1']))
        self.assertEqual(format_book(Book(ALL_SIGNS, [rule for rule, _ in RULES])), '\n'.join(['signs a:0 f:2 g:3 s:1'] + [text for _, text in RULES]))
        self.assertEqual(format_book(Book(ALL_SIGNS, [RULES[0][0]] * 2)).count('\n'), 2)

    def test_errors(self):
        for thing in odd_objects():
            for call, told in [(format_tree, A), (format_rule, ANY_RULES[0]), (format_net, [('a',)])]:
                for other in [told, None]:
                    with self.assertRaises(InvalidSigns):
                        call(thing, other)
            if not is_tree(SIGNS, thing):
                with self.assertRaises(InvalidTree):
                    format_tree(SIGNS, thing)
            with self.assertRaises(InvalidRule):
                format_rule(SIGNS, thing)
            if thing != [A]:
                with self.assertRaises(InvalidNet):
                    format_net(SIGNS, thing)
            if not isinstance(thing, Book):
                with self.assertRaises(InvalidBook):
                    format_book(thing)
        for rule in [('k', 'f', ('k', 'k'), ((1, 0, True),)), ('k', 'g', ('k', 'k', 'k'), ()), ('k', 'a', (), []), ['k', 'a', (), ()]]:
            with self.assertRaises(InvalidRule):
                format_rule(SIGNS, rule)
        for net in [[], [('f', 0, 0)], (('a',),), [('a',), ('f', 0, True)], [('a',)] * 201]:
            with self.assertRaises(InvalidNet):
                format_net(SIGNS, net)


class ParseTest(unittest.TestCase):
    def refuse(self, call, text, *signs):
        with self.assertRaises(ParseError) as caught:
            call(*signs, text)
        self.assertIs(type(caught.exception), ParseError)
        self.assertEqual([caught.exception.line, type(caught.exception.line), type(str(caught.exception))], [0, int, str])

    def test_what_is_written_is_read_back(self):
        for tree, text in TREES:
            self.assertEqual(parse_tree(ALL_SIGNS, text), tree)
        for rule, text in RULES:
            self.assertEqual(parse_rule(ALL_SIGNS, text), rule)
        for net, text in NETS:
            self.assertEqual(parse_net(ALL_SIGNS, text), net)
        trees = [tree for row in plain_trees(ALL_SIGNS, 5).values() for tree in row]
        trees += [wide_tree(4999, [A]), grown(A, lambda tree: ('g', A, tree, A), 39), grown(A, lambda tree: ('s', tree), 39)]
        for tree in trees:
            self.assertEqual(parse_tree(ALL_SIGNS, format_tree(ALL_SIGNS, tree)), tree)
            net = net_of(ALL_SIGNS, tree)
            self.assertEqual(parse_net(ALL_SIGNS, format_net(ALL_SIGNS, net)), net)
        for rule in asking_book().rules:
            self.assertEqual(parse_rule(ALL_SIGNS, format_rule(ALL_SIGNS, rule)), rule)

    def test_trees_that_cannot_be_read(self):
        for text in NO_TREES:
            with self.subTest(text=text[:60]):
                self.refuse(parse_tree, text, ALL_SIGNS)
        # A sign that is like a mark for what follows, and signs that begin alike.
        signs = {'a': 0, 'ab': 0, 'b': 1}
        self.assertEqual([parse_tree(signs, text) for text in ['ab', 'b(ab)', 'b(b(a))']], [('ab',), ('b', ('ab',)), ('b', ('b', ('a',)))])
        for text in ['ba', 'abb', 'a(b)', 'ab(a)', 'b', 'bab']:
            self.refuse(parse_tree, text, signs)

    def test_rules_that_cannot_be_read(self):
        for text in NO_RULES:
            with self.subTest(text=text[:60]):
                self.refuse(parse_rule, text, ALL_SIGNS)

    def test_nets_that_cannot_be_read(self):
        for text in NO_NETS:
            if text not in ['a a', 'a']:
                with self.subTest(text=text[:60]):
                    self.refuse(parse_net, text, ALL_SIGNS)
        self.assertEqual(parse_net(ALL_SIGNS, ' '.join(['a'] * 200)), [('a',)] * 200)
        self.assertEqual(parse_net(ALL_SIGNS, ' '.join(['a'] * 199 + ['s:100'])), [('a',)] * 199 + [('s', 100)])

    def test_objects_that_are_no_strings(self):
        for thing in odd_objects():
            with self.subTest(thing=str(thing)[:60]):
                for call in [parse_tree, parse_rule, parse_net]:
                    if call != parse_tree or thing != 'f(a,a)':
                        self.refuse(call, thing, SIGNS)
                    for text in ['a', 'k = a', None]:
                        with self.assertRaises(InvalidSigns):
                            call(thing, text)
                self.refuse(parse_book, thing)

    def test_changed_texts(self):
        chance = random.Random(231)
        letters = 'abfks(),=!:01 \n\tA'
        calls = [(parse_tree, format_tree, TREES), (parse_rule, format_rule, RULES), (parse_net, format_net, NETS[:3])]
        for parse, write, rows in calls:
            for _, text in rows:
                for _ in range(300):
                    at = chance.randrange(len(text) + 1)
                    other = chance.choice([text[:at] + text[at + 1:], text[:at] + chance.choice(letters) + text[at:],
                                           text[:at] + chance.choice(letters) + text[at + 1:], text[:at] + text[max(0, at - 2):]])
                    try:
                        told = parse(ALL_SIGNS, other)
                    except ParseError:
                        continue
                    # Whatever is read is written so.
                    self.assertEqual(write(ALL_SIGNS, told), other)


class ParseBookTest(unittest.TestCase):
    def refuse(self, text, line):
        with self.assertRaises(ParseError) as caught:
            parse_book(text)
        self.assertIs(type(caught.exception), ParseError)
        self.assertEqual([caught.exception.line, type(caught.exception.line), type(str(caught.exception))], [line, int, str])

    def test_there_and_back(self):
        books = [example_book(), short_book(), asking_book(), Book({'a': 0}, []), Book(ALL_SIGNS, [rule for rule, _ in RULES])]
        books += [book for book, _ in random_books(232, 45)] + [part_book(SIGNS, [wide_tree(99), wide_tree(97)])]
        books += [Book(SIGNS, ANY_RULES * 600), Book({'f': 2, 'b': 0, 'a': 0}, ANY_RULES)]
        for book in books:
            text = format_book(book)
            self.assertEqual(parse_book(text), book)
            self.assertIs(type(parse_book(text)), Book)
            self.assertEqual(list(parse_book(text).signs), sorted(book.signs))
            self.assertEqual(format_book(parse_book(text)), text)

    def test_wrong_signs(self):
        lines = [
            '', ' ', 'signs', 'signs ', ' signs a:0', 'signs a:0 ', 'signs  a:0', 'signs a:0  b:0', 'sign a:0', 'Signs a:0', 'signs:a:0', 'signs a', 'signs a:',
            'signs :0', 'signs a:00', 'signs a:01', 'signs a:+1', 'signs a:-0', 'signs a:-1', 'signs a:4', 'signs a:9', 'signs a:10', 'signs a:x', 'signs a:0:0', 'signs A:0',
            'signs abcdefghi:0', 'signs a1:0', 'signs b:0 a:0', 'signs a:0 a:0', 'signs a:0 a:1', 'signs a:0 f:2 b:0', 'signs a:0,b:0', 'signs a:0\tb:0', 'signs\ta:0',
            'signs a :0', 'signs a: 0', 'signs a:0 signs b:0', 'k = a', 'signs a:0 b:0 c:0 d:0 e:0 f:0 g:0 h:0 i:0', 'signs a:\t0', 'signs a:True',
        ]
        for line in lines:
            with self.subTest(line=line):
                for more in ['', '\n', '\nk = a', '\nk = b\nx']:
                    self.refuse(line + more, 0)
        self.assertEqual(parse_book('signs a:0 b:0 c:0 d:0 e:0 f:0 g:0 h:0'), Book({sign: 0 for sign in 'abcdefgh'}, []))
        self.assertEqual(parse_book('signs signs:0\nsigns = signs').rules, [('signs', 'signs', (), ())])

    def test_wrong_lines(self):
        first = 'signs a:0 f:2 g:3 s:1'
        for line in NO_RULES:
            if '\n' not in line:
                with self.subTest(line=line):
                    self.refuse(first + '\n' + line, 1)
                    self.refuse(first + '\nk = a\n' + line + '\nk = a', 2)
                    self.refuse(first + '\nk = a\n' + line + '\n' + line, 2)
                    self.refuse(first + '\nk = a' * 7 + '\n' + line, 8)
        for text, line in [(first + '\n', 1), (first + '\n\n', 1), (first + '\nk = a\n', 2), ('\n' + first, 0), (first + '\n\nk = a', 1), (first + '\n' + first, 1),
                           (first + '\nk = a\n\nk = a', 2), (first + '\nk = a\tk = a', 1), (first + '\nk = b', 1), ('signs a:0\nk = a\nk = b', 2)]:
            self.refuse(text, line)

    def test_two_thousand_rules_and_one_more(self):
        first = 'signs a:0 b:0 f:2'
        for many in [1999, 2000]:
            self.assertEqual(len(parse_book(first + '\nk = a' * many)), many)
        for many in [2001, 2002, 5000]:
            self.refuse(first + '\nk = a' * many, 2001)
        for at in [1, 2, 1000, 1999, 2000, 2001, 2002, 2500]:
            lines = ['k = f(k,k) 0=1'] * 2500
            lines[at - 1] = 'k = c'
            self.refuse('\n'.join([first] + lines), min(at, 2001))
            self.refuse('\n'.join([first] + lines[:at]), min(at, 2001))
            lines[0] = ''
            self.refuse('\n'.join([first] + lines), 1)
        self.refuse(first + '\nk = a' * 2000 + '\n', 2001)
        self.refuse(first + '\nk = a' * 1999 + '\n', 2000)


if __name__ == '__main__':
    unittest.main()
