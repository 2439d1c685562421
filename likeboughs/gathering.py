"""All trees of kinds whose rules lead from no kind back to it, gathered kind by kind.

Books of thousands of kinds have too many lots to go by, but each of their kinds
may have few trees.
"""

from likeboughs.endings import MOST_LISTED

# So many rows of brothers that, whatever asks leave out, more than the most listed are left.
MOST_ROWS = 1000


def firsts_asked(many, asks):
    """For each of so many places the first one that asks say to have the same tree."""
    firsts = list(range(many))
    for first, second, same in asks:
        if same:
            least, most = sorted([firsts[first], firsts[second]])
            firsts = [least if at == most else at for at in firsts]
    return firsts


class Form:
    """A rule, told by the different brothers that it needs: those that are asked to be the same are one.

    names has for each of them the kinds that it is of, apart those ahead of it
    that it must not be, at tells for each place which of them stands there.
    """

    def __init__(self, rule):
        _, self.sign, kinds, asks = rule
        self.is_shared = False
        self.is_barred = False
        self.at = list(range(len(kinds)))
        self.names = [[kind] for kind in kinds]
        self.apart = [[] for _ in kinds]
        if asks != ():
            self._look_at(kinds, asks)

    def _look_at(self, kinds, asks):
        firsts = firsts_asked(len(kinds), asks)
        ones = sorted(set(firsts))
        self.is_shared = len(ones) < len(kinds)
        self.at = [ones.index(first) for first in firsts]
        self.names = [sorted({kinds[place] for place, first in enumerate(firsts) if first == one}) for one in ones]
        self.apart = [[] for _ in ones]
        for first, second, same in asks:
            least, most = sorted([self.at[first], self.at[second]])
            if not same and least == most:
                self.is_barred = True
            elif not same and least not in self.apart[most]:
                self.apart[most].append(least)

    def least_number(self, least):
        """At least how many trees the rule makes, from such numbers for the kinds beneath."""
        if self.is_barred:
            return 0
        number = 1
        for kinds, others in zip(self.names, self.apart):
            # Of two kinds that are not the same no tree may be of both.
            here = least[kinds[0]] if len(kinds) == 1 else 0
            number = number * max(0, here - len(others))
        return number

    def trees_made(self, pools):
        """The nodes of trees that the rule makes: all, or more than the most listed."""
        rows = [()]
        for pool, others in zip(pools, self.apart):
            # No tree bars more than two of the pool, so enough rows are left.
            enough = rows[:MOST_ROWS // max(1, len(pool) - 2) + 1]
            if others == []:
                rows = [(*row, number) for row in enough for number in pool]
            else:
                rows = [
                    (*row, number) for row in enough for number in pool if number not in [row[at] for at in others]
                ]
        sign, places = self.sign, self.at
        if self.is_shared:
            return [(sign, *[row[at] for at in places]) for row in rows[:MOST_LISTED + 1]]
        return [(sign, *row) for row in rows[:MOST_LISTED + 1]]


class Gathering:
    """The trees of kinds, each one gathered behind those beneath it."""

    def __init__(self, grove, rules, order):
        self._grove = grove
        self._order = order
        self._forms = {name: [] for name in order}
        for rule in rules:
            self._forms[rule[0]].append(Form(rule))
        self._held = {}
        # The kinds that may have more trees than are held.
        self._unsure = {}

    def least_number(self, kind):
        """At least how many trees a kind has, one more than the most listed for all more."""
        least = {kind: 0}
        for name in self._order:
            # Trees of unlike signs are not the same.
            by_sign = {}
            for form in self._forms[name]:
                by_sign[form.sign] = max(by_sign.get(form.sign, 0), form.least_number(least))
            least[name] = min(MOST_LISTED + 1, sum(list(by_sign.values())))
        return least[kind]

    def trees(self, kind):
        """The numbers in the grove of all trees of a kind, or of more than the most listed.

        None where this cannot be told, as there are too many trees of some kind beneath.
        """
        for name in self._order:
            self._gather(name)
        numbers = self._held.get(kind, [])
        return None if kind in self._unsure and len(numbers) <= MOST_LISTED else numbers

    def _gather(self, name):
        found = []
        for form in self._forms[name]:
            if not form.is_barred:
                pools = [self._pool(kinds) for kinds in form.names]
                found.append(self._grove.plant_all(form.trees_made(pools)))
                if not self._is_sure(form, pools):
                    self._unsure[name] = True
        numbers = found[0] if len(found) == 1 else list({number: True for row in found for number in row})
        self._held[name] = numbers[:MOST_LISTED + 1]
        if len(numbers) > MOST_LISTED:
            self._unsure[name] = True

    def _pool(self, kinds):
        """The trees held that are of each of some kinds."""
        pool = self._held[kinds[0]]
        for kind in kinds[1:]:
            held = {number: True for number in self._held[kind]}
            pool = [number for number in pool if number in held]
        return pool

    def _is_sure(self, form, pools):
        """Whether no brothers are missing in pools, or it does not matter, as there are none for some place."""
        sure = [all([kind not in self._unsure for kind in kinds]) for kinds in form.names]
        none = [any([self._held[kind] == [] and kind not in self._unsure for kind in kinds]) for kinds in form.names]
        return all(sure) or any(none) or any([known and pool == [] for known, pool in zip(sure, pools)])
