"""Trees of a lot with no end of trees that have more places than told."""

from likeboughs.shapes import firsts_of

MOST_PLACES = 5000
MOST_GREAT = 3


def brothers_of(pattern, pools):
    """Brothers with a pattern, each different one the first of its list that is not yet taken; None if all are."""
    chosen = {}
    for at, pool in zip(firsts_of(pattern), pools):
        taken = list(chosen.values())
        left = [number for number in pool if number not in taken]
        if left == []:
            return None
        chosen[at] = left[0]
    return [chosen[at] for at in pattern]


def pools_of(small, great, row, pattern):
    """All choices of small trees or great ones for the different brothers of a step."""
    choices = [[]]
    for at in firsts_of(pattern):
        choices = [pools + [pool[row[at]]] for pools in choices for pool in [small, great]]
    return choices


def next_level(grove, steps, small, great, most):
    """A dict from lots to lists of trees with at most so many places, made of small trees and of great ones."""
    made = {}
    for sign, row, pattern, lot in steps:
        for pools in pools_of(small, great, row, pattern):
            brothers = brothers_of(pattern, pools)
            if brothers is not None and 1 + sum([grove.places[number] for number in brothers]) <= most:
                made.setdefault(lot, {})[grove.plant((sign, *brothers))] = True
    return {lot: list(made[lot]) for lot in made}


def greatest(grove, numbers):
    """The greatest ones of some trees, each one once, the greatest one first."""
    rows = sorted(list({(grove.places[number], number): True for number in numbers}), reverse=True)
    return [row[1] for row in rows[:MOST_GREAT]]


def one_sign_each(steps):
    """Steps of which no two are alike but for their signs."""
    return list({step[1:]: step for step in steps}.values())


def grown_beyond(grove, steps, small, lot, least):
    """The number of a small tree of a lot with no end of trees that has more places than told.

    Levels of signs are put upon great trees. So the tree is not deep, though
    it may have some places more than it must.
    """
    alike = one_sign_each(steps)
    great = {name: greatest(grove, small[name]) for name in small}
    most = MOST_PLACES
    made = small
    while True:
        beyond = [(grove.places[number], number) for number in made.get(lot, []) if grove.places[number] > least]
        if beyond != []:
            return min(beyond)[1]
        made = next_level(grove, alike, small, great, most)
        before = great
        great = {name: greatest(grove, great[name] + made.get(name, [])) for name in great}
        if great == before:
            most = most + most
