"""Lots with finitely many trees, and all these trees."""

from likeboughs.rounds import ways
from likeboughs.rows import rows_apart
from likeboughs.shapes import firsts_of

MOST_LISTED = 300


def ended_lots(field):
    """The lots of a field with finitely many trees, each one behind those that stand beneath it.

    No ring of steps leads to such a lot: so they are come to from the leaves up.
    """
    beneath = {lot: {} for lot in field.counts}
    for _, row, _, lot in field.steps:
        for lower in row:
            beneath[lot][lower] = True
    ended = {}
    many = -1
    while many < len(ended):
        many = len(ended)
        for lot in beneath:
            if lot not in ended and all([lower in ended for lower in beneath[lot]]):
                ended[lot] = True
    return list(ended)


def steps_to(field, lots):
    """A dict from some lots to the lists of the steps of a field that tell them."""
    steps = {lot: [] for lot in lots}
    for step in field.steps:
        if step[3] in steps:
            steps[step[3]].append(step)
    return steps


def lots_needed(steps, wanted):
    """A dict whose keys are lots, those beneath them, and so on, by the steps that tell them."""
    needed = {lot: True for lot in wanted}
    waiting = list(wanted)
    while waiting:
        upper = waiting.pop()
        for _, row, _, _ in steps[upper]:
            for lower in row:
                if lower not in needed:
                    needed[lower] = True
                    waiting.append(lower)
    return needed


def numbers_of_trees(steps, order):
    """A dict from lots with finitely many trees to the numbers of these, one beyond the most listed for all more."""
    many = {}
    for lot in order:
        made = sum([ways(many, row, pattern) for _, row, pattern, _ in steps[lot]])
        many[lot] = min(MOST_LISTED + 1, made)
    return many


def nodes_made(held, step):
    """The nodes of all trees that a step makes of trees of the lots beneath, told by numbers."""
    sign, row, pattern, _ = step
    firsts = firsts_of(pattern)
    rows = rows_apart([held[row[at]] for at in firsts])
    return [(sign, *[taken[firsts.index(at)] for at in pattern]) for taken in rows]


def trees_of_lots(grove, field, wanted):
    """A dict from lots, and those beneath, to the numbers in a grove of all their trees.

    None if the lots wanted have too many trees to be listed. No lot beneath has
    more trees than these have together: so all that is made on the way is short.
    """
    ended = ended_lots(field)
    if not all([lot in ended for lot in wanted]):
        return None
    steps = steps_to(field, ended)
    needed = lots_needed(steps, wanted)
    order = [lot for lot in ended if lot in needed]
    many = numbers_of_trees(steps, order)
    if sum([many[lot] for lot in wanted]) > MOST_LISTED:
        return None
    held = {}
    for lot in order:
        held[lot] = [grove.plant(node) for step in steps[lot] for node in nodes_made(held, step)]
    return held
