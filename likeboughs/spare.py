"""Whether a kind has the same trees if one rule of a book is left out, or asks less."""

from likeboughs.fields import Field
from likeboughs.makers import Maker
from likeboughs.pairs import Pair
from likeboughs.reach import indexes_beneath
from likeboughs.rounds import patterns_let
from likeboughs.rows import rows_out_of
from likeboughs.shapes import asks_hold


class Spare:
    """The rules that a kind hangs on, and where each of them is needed.

    Kinds of brothers only ever give a tree more kinds, never fewer. So a rule
    that makes a kind where no other one does is needed for this kind; whether it
    is for the kind looked at has then to be tried.
    """

    def __init__(self, book, kind):
        self._kind = kind
        rules = book.rules
        indexes = indexes_beneath(rules, kind)
        self._rules_beneath = [rules[index] for index in indexes]
        self._places = {index: place for place, index in enumerate(indexes)}
        self._maker = Maker(book.signs, self._rules_beneath)
        self._field = Field(self._maker)
        self._alone = self._places_alone()

    def is_needless(self, index):
        """Whether the kind has the same trees without the rule with an index."""
        if index not in self._places:
            return True
        place = self._places[index]
        if place not in self._alone:
            return True
        rules = self._rules_beneath
        return rules[place][0] != self._kind and self._is_like(rules[:place] + rules[place + 1:])

    def may_be(self, index, rule):
        """Whether the kind has the same trees if the rule with an index is this one, which has fewer asks."""
        if index not in self._places or not self._makes_more(rule):
            return True
        place = self._places[index]
        rules = self._rules_beneath
        return rule[0] != self._kind and self._is_like([*rules[:place], rule, *rules[place + 1:]])

    def _places_alone(self):
        """A dict whose keys are the places of the rules that make a kind somewhere where no other rule makes it."""
        alone = {}
        for sign, row, pattern, _ in self._field.steps:
            makers = {}
            for place in self._maker.makers(sign, row, pattern):
                makers.setdefault(self._rules_beneath[place][0], []).append(place)
            for kind in makers:
                if len(makers[kind]) == 1:
                    alone[makers[kind][0]] = True
        return alone

    def _makes_more(self, rule):
        """Whether a rule makes its kind somewhere where none of the rules makes it."""
        kind, sign, kinds, asks = rule
        counts = self._field.counts
        pools = [[lot for lot in counts if self._maker.has(lot, name)] for name in kinds]
        return any([
            asks_hold(asks, pattern) and not self._maker.has(self._maker.step(sign, row, pattern), kind)
            for row in rows_out_of(pools) for pattern in patterns_let(counts, row)
        ])

    def _is_like(self, rules):
        """Whether other rules make the same trees of the kind."""
        pair = Pair(self._maker, self._kind, Maker(self._maker.brothers, rules), self._kind)
        return not any([pair.are_apart(lot) for lot in Field(pair).counts])
