"""The errors that the calls of the package raise."""


class BoughError(ValueError):
    """Whatever the package refuses: str tells why."""


class ParseError(BoughError):
    """A text that cannot be read: line is the index of the line where it fails."""

    def __init__(self, line):
        super().__init__(f"line {line} cannot be read")
        self.line = line


class InvalidAdditions(BoughError):
    """The object is no list of additions to a book."""


class InvalidBook(BoughError):
    """The object is no book."""


class InvalidFrame(BoughError):
    """The object is no frame of the signs."""


class InvalidKind(BoughError):
    """The object is no name of a kind."""


class InvalidLine(BoughError):
    """The object is no line of the shell."""


class InvalidLots(BoughError):
    """The object is no tuple of lots for the brothers beneath a sign."""


class InvalidMatch(BoughError):
    """The signs of two books are unlike."""


class InvalidName(BoughError):
    """The word is no name for a book."""


class InvalidNames(BoughError):
    """The object tells no new names for kinds of a book."""


class InvalidNet(BoughError):
    """The object is no net of the signs."""


class InvalidNumber(BoughError):
    """The object is no integer within the bounds asked for."""


class InvalidPattern(BoughError):
    """The object is no pattern of the brothers."""


class InvalidRule(BoughError):
    """The object is no rule of the signs."""


class InvalidRules(BoughError):
    """The object is no list of rules of the signs, or it is too long."""


class InvalidSigns(BoughError):
    """The object is no signs."""


class InvalidTree(BoughError):
    """The object is no tree of the signs, or none of those asked for."""


class InvalidTrees(BoughError):
    """The object is no list of trees of the signs, or it is too long."""


class InvalidValue(BoughError):
    """The object is no bool."""


class NothingToUndo(BoughError):
    """There are fewer calls than are to be taken back."""


class PlainKind(BoughError):
    """A book without asks has a kind with just these trees."""


class TooFew(BoughError):
    """There are fewer trees on the pile than stand beneath a sign."""


class TooMany(BoughError):
    """There are more trees or additions than may be listed."""


class UnknownName(BoughError):
    """There is no book of this name."""


class UnknownSign(BoughError):
    """The object is none of the signs."""
