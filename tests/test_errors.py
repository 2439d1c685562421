"""The error classes."""

import unittest

from likeboughs import errors

NAMES = [
    'InvalidAdditions', 'InvalidBook', 'InvalidFrame', 'InvalidKind', 'InvalidLine', 'InvalidLots', 'InvalidMatch',
    'InvalidName', 'InvalidNames', 'InvalidNet', 'InvalidNumber', 'InvalidPattern', 'InvalidRule', 'InvalidRules',
    'InvalidSigns', 'InvalidTree', 'InvalidTrees', 'InvalidValue', 'NothingToUndo', 'PlainKind', 'TooFew', 'TooMany',
    'UnknownName', 'UnknownSign',
]


class ErrorsTest(unittest.TestCase):
    def test_bough_error(self):
        self.assertEqual(errors.BoughError.__bases__, (ValueError,))
        self.assertEqual(str(errors.BoughError('why it is so')), 'why it is so')

    def test_direct_subclasses(self):
        for name in NAMES + ['ParseError']:
            with self.subTest(name=name):
                self.assertEqual(getattr(errors, name).__bases__, (errors.BoughError,))
                self.assertEqual(getattr(errors, name).__name__, name)
                self.assertEqual(getattr(errors, name).__module__, 'likeboughs.errors')

    def test_no_others(self):
        found = [name for name, thing in vars(errors).items() if isinstance(thing, type)]
        self.assertEqual(sorted(found), sorted(NAMES + ['BoughError', 'ParseError']))

    def test_str_tells_the_string(self):
        for name in NAMES:
            for why in ['', 'no tree', 'two\nlines']:
                with self.subTest(name=name, why=why):
                    self.assertEqual(str(getattr(errors, name)(why)), why)

    def test_line_of_parse_error(self):
        for line in [0, 1, 2000]:
            self.assertEqual(errors.ParseError(line).line, line)
            self.assertEqual(errors.ParseError(line=line).line, line)
            self.assertIsInstance(str(errors.ParseError(line)), str)
        self.assertIs(type(errors.ParseError(3).line), int)

    def test_raised_and_caught(self):
        for name in NAMES:
            with self.assertRaises(errors.BoughError):
                raise getattr(errors, name)('odd')
        with self.assertRaises(ValueError) as caught:
            raise errors.ParseError(4)
        self.assertEqual(caught.exception.line, 4)


if __name__ == '__main__':
    unittest.main()
