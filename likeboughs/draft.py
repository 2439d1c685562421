"""Drafts: books that are made rule by rule, with wishes for trees."""

from likeboughs.books import Book, check_kind, is_rule_of
from likeboughs.errors import InvalidNumber, InvalidRule, InvalidValue, NothingToUndo
from likeboughs.groves import Grove
from likeboughs.makers import Maker, lots_of_nodes
from likeboughs.trees import check_signs, check_tree
from likeboughs.words import is_between, is_integer


class Draft:
    """Rules and wishes, and the calls by which they came to be, so that these can be taken back."""

    def __init__(self, signs):
        check_signs(signs)
        self._signs = dict(signs)
        self._rules = []
        # Rows (kind, tree, is_so, number of the tree in the grove).
        self._rows = []
        self._grove = Grove()
        # For each call whether it changed the wishes, and where it took which one away: None if it put one.
        self._calls = []

    @property
    def book(self):
        """The book of the rules that stand."""
        return Book(self._signs, self._rules)

    @property
    def wishes(self):
        """A new list of the wishes that stand, as tuples (kind, tree, is_so)."""
        return [row[:3] for row in self._rows]

    def __len__(self):
        return len(self._calls)

    def add(self, rule):
        """Put a rule at the end."""
        self._check_rule(rule)
        self._rules.append(rule)
        self._calls.append((False, None, None))

    def remove(self, index):
        """Take a rule away."""
        self._take(False, index)

    def want(self, kind, tree, is_so):
        """Put a wish at the end: that a tree is of a kind, or that it is not."""
        check_kind(kind)
        check_tree(self._signs, tree)
        if not isinstance(is_so, bool):
            raise InvalidValue("whether a wish is that a tree is of a kind is told by a bool")
        self._rows.append((kind, tree, is_so, self._grove.put(tree)))
        self._calls.append((True, None, None))

    def drop(self, index):
        """Take a wish away."""
        self._take(True, index)

    def undo(self, *, steps=1):
        """Take the last so many calls back."""
        if not is_integer(steps) or steps < 1:
            raise InvalidNumber("a number of steps is an integer from 1 on")
        if steps > len(self._calls):
            raise NothingToUndo("there are fewer calls to take back")
        for _ in range(steps):
            of_wishes, index, taken = self._calls.pop()
            things = self._rows if of_wishes else self._rules
            if index is None:
                things.pop()
            else:
                things.insert(index, taken)

    def failing(self):
        """The ascending list of the indexes of wishes that are not met."""
        return self._failing_with(self._rules)

    def helping(self, rule):
        """The ascending list of the indexes of wishes that are not met, but would be with a rule at the end."""
        self._check_rule(rule)
        failing = self._failing_with(self._rules + [rule])
        return [index for index in self._failing_with(self._rules) if index not in failing]

    def copy(self):
        """An independent draft in the same state."""
        draft = Draft(self._signs)
        # Trees that a grove has stay as they are, so both may put theirs into one.
        draft._grove = self._grove
        draft._rules = list(self._rules)
        draft._rows = list(self._rows)
        draft._calls = list(self._calls)
        return draft

    def _check_rule(self, rule):
        if not is_rule_of(self._signs, rule):
            raise InvalidRule("a rule is a tuple of a kind, a sign, kinds and asks that fit the signs")

    def _take(self, of_wishes, index):
        things = self._rows if of_wishes else self._rules
        if not is_between(index, 0, len(things) - 1):
            raise InvalidNumber("there is no rule, or no wish, with this index")
        self._calls.append((of_wishes, index, things.pop(index)))

    def _failing_with(self, rules):
        maker = Maker(self._signs, rules)
        lots = lots_of_nodes(maker, self._grove.nodes)
        return [
            index for index, (kind, _, is_so, number) in enumerate(self._rows)
            if maker.has(lots[number], kind) != is_so
        ]
