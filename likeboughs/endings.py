"""Lots and kinds with finitely many trees, and all these trees."""

from likeboughs.reach import kinds_in_order
from likeboughs.rounds import ways
from likeboughs.rows import rows_apart, rows_out_of
from likeboughs.shapes import asks_hold, firsts_of, pattern_in

MOST_LISTED = 300
MOST_ROWS = 50000


def ended_lots(field):
    """The lots of a field with finitely many trees, each one behind those that stand beneath it.

    No ring of steps leads to such a lot: so they are come to from the leaves up.
    """
    beneath = {lot: {} for lot in field.counts}
    for _, row, _, lot in field.steps:
        for lower in row:
            beneath[lot][lower] = True
    ended = {}
    many = -1
    while many < len(ended):
        many = len(ended)
        for lot in beneath:
            if lot not in ended and all([lower in ended for lower in beneath[lot]]):
                ended[lot] = True
    return list(ended)


def lots_needed(steps, wanted):
    """A dict whose keys are lots, those beneath them, and so on, by the steps that tell them."""
    needed = {lot: True for lot in wanted}
    waiting = list(wanted)
    while waiting:
        upper = waiting.pop()
        for _, row, _, _ in steps[upper]:
            for lower in row:
                if lower not in needed:
                    needed[lower] = True
                    waiting.append(lower)
    return needed


def numbers_of_trees(steps, order):
    """A dict from lots with finitely many trees to the numbers of these, one beyond the most listed for all more."""
    many = {}
    for lot in order:
        made = sum([ways(many, row, pattern) for _, row, pattern, _ in steps[lot]])
        many[lot] = min(MOST_LISTED + 1, made)
    return many


def nodes_made(held, step):
    """The nodes of all trees that a step makes of trees of the lots beneath, told by numbers."""
    sign, row, pattern, _ = step
    firsts = firsts_of(pattern)
    rows = rows_apart([held[row[at]] for at in firsts])
    return [(sign, *[taken[firsts.index(at)] for at in pattern]) for taken in rows]


def trees_of_lots(grove, field, wanted):
    """The numbers in a grove of all trees of lots, or None if they are too many to be listed.

    No lot beneath has more trees than the lots wanted have together: so all
    that is made on the way is short, too.
    """
    ended = ended_lots(field)
    if not all([lot in ended for lot in wanted]):
        return None
    steps = {lot: [] for lot in ended}
    for step in field.steps:
        if step[3] in steps:
            steps[step[3]].append(step)
    needed = lots_needed(steps, wanted)
    order = [lot for lot in ended if lot in needed]
    many = numbers_of_trees(steps, order)
    if sum([many[lot] for lot in wanted]) > MOST_LISTED:
        return None
    held = {}
    for lot in order:
        held[lot] = [grove.plant(node) for step in steps[lot] for node in nodes_made(held, step)]
    return [number for lot in wanted for number in held[lot]]


def number_of_rows(held, rule):
    """How many rows of brothers of the kinds in a rule there are."""
    rows = 1
    for lower in rule[2]:
        rows = rows * len(held[lower])
    return rows


def trees_by_rules(grove, held, made_by):
    """The list of the numbers of all trees that rules make of trees of the kinds beneath."""
    found = {}
    for _, sign, kinds, asks in made_by:
        for row in rows_out_of([held[lower] for lower in kinds]):
            if asks_hold(asks, pattern_in(row)):
                found[grove.plant((sign, *row))] = True
    return list(found)


def trees_by_kinds(grove, rules, kind):
    """The numbers in a grove of all trees of a kind, where no rules lead from a kind back to it.

    Books of thousands of kinds have too many lots to go by, but each of their
    kinds may have few trees. None where there are rings of rules, too many trees
    of some kind beneath, or too many rows of them to look through.
    """
    order = kinds_in_order(rules)
    if order is None:
        return None
    made_by = {name: [] for name in order}
    for rule in rules:
        made_by[rule[0]].append(rule)
    held = {}
    looked = 0
    for name in order:
        looked = looked + sum([number_of_rows(held, rule) for rule in made_by[name]])
        if looked > MOST_ROWS:
            return None
        held[name] = trees_by_rules(grove, held, made_by[name])
        if len(held[name]) > MOST_LISTED:
            return None
    return held.get(kind, [])
