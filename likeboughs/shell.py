"""A shell: books by name, and lines that ask about them."""

from likeboughs.answers import ANSWERS
from likeboughs.books import check_kind
from likeboughs.errors import InvalidLine, InvalidName, InvalidNumber, InvalidTree, UnknownName
from likeboughs.parsing import number_in, tree_in
from likeboughs.texts import parse_book
from likeboughs.trees import MOST_SIZE
from likeboughs.words import is_between, is_name

# What the words behind the first word of a line tell.
FORMS = {
    "book": ("name", "text"), "names": (), "of": ("book", "kind", "tree"), "lot": ("book", "tree"), "counts": ("book",),
    "made": ("book", "kind"), "end": ("book", "kind"), "count": ("book", "kind", "size"),
    "holds": ("book", "kind", "book", "kind"), "alike": ("book", "kind", "book", "kind"), "asks": ("book", "kind"),
    "kin": ("book", "kind", "tree", "tree"), "needless": ("book", "kind"),
}


def words_of(line):
    """The words of a line, or None if an object is no line."""
    if not isinstance(line, str) or "\n" in line:
        return None
    words = line.split(" ")
    if "" in words or words[0] not in FORMS or len(words) != len(FORMS[words[0]]) + 1:
        return None
    return words


def tree_told(signs, word):
    """The tree of signs whose text a word is."""
    tree = tree_in(signs, word)
    if tree is None:
        raise InvalidTree("the word is no text of a tree of the book's signs")
    return tree


def size_told(word):
    """The size that a word tells."""
    size = number_in(word)
    if not is_between(size, 1, MOST_SIZE) or word != str(size):
        raise InvalidNumber("a size is an integer from 1 to 40")
    return size


class Shell:
    """Books by name."""

    def __init__(self):
        self._books = {}

    def run(self, line):
        """Execute a line and return the answer."""
        words = words_of(line)
        if words is None:
            raise InvalidLine("a line has one of the first words, and as many words behind it as belong to it")
        word, *told = words
        if word == "book":
            return self._put(told[0], told[1])
        if word == "names":
            return " ".join(sorted(self._books)) if len(self._books) > 0 else "-"
        pairs = list(zip(FORMS[word], told))
        books = [self._named(name) for what, name in pairs if what == "book"]
        kinds = [kind for what, kind in pairs if what == "kind"]
        for kind in kinds:
            check_kind(kind)
        things = [tree_told(books[0].signs, text) for what, text in pairs if what == "tree"]
        things.extend([size_told(text) for what, text in pairs if what == "size"])
        answer = ANSWERS[word]
        return answer(books, kinds, things)

    def _put(self, name, text):
        """Put the book that a text tells under a name."""
        if not is_name(name):
            raise InvalidName("a name is a string of one to eight letters from a to z")
        self._books[name] = parse_book(text.replace("_", " ").replace("/", "\n"))
        return "ok"

    def _named(self, name):
        if name not in self._books:
            raise UnknownName("there is no book of this name")
        return self._books[name]
