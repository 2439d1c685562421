"""Lots that may share a kind, as they make no difference to what is wanted."""

from likeboughs.rounds import steps_let


def told_apart(steps, classes):
    """A finer dict from lots to numbers: lots have one number if steps from them lead to the same numbers.

    All steps that lead to the number of the lot () are left out: those from this
    lot itself are not among the steps.
    """
    seen = {lot: {} for lot in classes}
    for sign, row, pattern, told in steps:
        if classes[told] != classes[0]:
            numbers = tuple([classes[lot] for lot in row])
            for place, lot in enumerate(row):
                seen[lot][(sign, place, pattern, numbers, classes[told])] = True
    found = {}
    finer = {}
    for lot in classes:
        key = (classes[lot], tuple(sorted(seen[lot])))
        finer[lot] = found.setdefault(key, len(found))
    return finer


def classes_of(steps, lots, wanted):
    """A dict from lots to numbers, the same ones only for lots that seem to be alike for what is wanted."""
    classes = {lot: int(lot in wanted) for lot in lots}
    many = 0
    while many < len({number: True for number in list(classes.values())}):
        many = len({number: True for number in list(classes.values())})
        classes = told_apart(steps, classes)
    return classes


def steps_between(steps, classes):
    """The steps between the numbers of lots, or None if brothers with the same numbers make trees with unlike ones."""
    told = {}
    for sign, row, pattern, lot in steps:
        key = (sign, tuple([classes[lower] for lower in row]), pattern)
        if told.setdefault(key, classes[lot]) != classes[lot]:
            return None
    return [(sign, row, pattern, told[(sign, row, pattern)]) for sign, row, pattern in told]


def merged(maker, counts, wanted):
    """A tuple of a dict from lots, 0 among them, to numbers, and of the steps let by counts, told in these numbers.

    No number that a wanted lot has is that of one that is not wanted.
    """
    steps = [step[:4] for step in steps_let(maker, counts)]
    lots = [0, *counts]
    classes = classes_of(steps, lots, wanted)
    between = steps_between(steps, classes)
    if between is None:
        return ({lot: lot for lot in lots}, steps)
    return (classes, between)
