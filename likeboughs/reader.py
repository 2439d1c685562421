"""Readers: trees that are read from their leaves up, on a pile."""

from likeboughs.books import check_book
from likeboughs.errors import InvalidNumber, NothingToUndo, TooFew, UnknownSign
from likeboughs.lotgroves import LotGrove
from likeboughs.makers import maker_of
from likeboughs.words import is_between


class Reader:
    """A pile of trees; each put or again tells the lot of the tree that it puts at the end."""

    def __init__(self, book):
        check_book(book)
        self._book = book
        self._brothers = book.signs
        self._grove = LotGrove(maker_of(book))
        self._pile = []
        # What each put or again that was not taken back took from the pile.
        self._taken = []

    @property
    def lots(self):
        """A new list of the lots of the trees on the pile."""
        return [self._grove.lots_told[number] for number in self._pile]

    @property
    def sizes(self):
        """A new list of the sizes of the trees on the pile."""
        return [self._grove.places[number] for number in self._pile]

    @property
    def same(self):
        """A new list that has for each index of the pile the first one with the same tree."""
        firsts = {}
        for at, number in enumerate(self._pile):
            firsts.setdefault(number, at)
        return [firsts[number] for number in self._pile]

    def __len__(self):
        return len(self._pile)

    def put(self, sign):
        """Put a tree with a sign above trees that are taken from the end of the pile, and tell its lot."""
        if not isinstance(sign, str) or sign not in self._brothers:
            raise UnknownSign("the sign is none of the book's")
        first = len(self._pile) - self._brothers[sign]
        if first < 0:
            raise TooFew("there are fewer trees on the pile than stand beneath the sign")
        taken = self._pile[first:]
        number = self._grove.plant((sign, *taken))
        del self._pile[first:]
        self._pile.append(number)
        self._taken.append(taken)
        return self._grove.lots_told[number]

    def again(self, index):
        """Put the tree at an index of the pile at its end once more, and tell its lot."""
        if not is_between(index, 0, len(self._pile) - 1):
            raise InvalidNumber("there is no tree with this index on the pile")
        number = self._pile[index]
        self._pile.append(number)
        self._taken.append([])
        return self._grove.lots_told[number]

    def undo(self):
        """Take the last put or again back."""
        if self._taken == []:
            raise NothingToUndo("there is no put and no again to take back")
        self._pile.pop()
        self._pile.extend(self._taken.pop())

    def copy(self):
        """An independent reader in the same state."""
        reader = Reader(self._book)
        # Trees that a grove has stay as they are, so both may plant theirs in one.
        reader._grove = self._grove
        reader._pile = list(self._pile)
        reader._taken = list(self._taken)
        return reader
