"""Rules for the trees of a kind up to a size.

A kind with a size stands for those trees of the kind that have at most the size.
"""

from likeboughs.rows import rows_out_of
from likeboughs.words import name_at


def sizes_of_kinds(rules, most):
    """A dict from kinds to ascending lists of the sizes that their trees may have, as far as asks are not looked at."""
    found = {}
    for size in range(1, most + 1):
        reached = {rule[0]: True for rule in rules if size - 1 in sums_of([found.get(name, []) for name in rule[2]])}
        for kind in reached:
            found.setdefault(kind, []).append(size)
    return found


def sums_of(pools):
    """A dict whose keys are the sums of sizes, one out of each list."""
    return {sum(row): True for row in rows_out_of(pools)}


def greatest_within(sizes, bound):
    """The greatest one of some sizes that is within a bound, or 0 if there is none."""
    return max([size for size in sizes if size <= bound], default=0)


def row_within(pools, bounds, asks):
    """The greatest sizes of brothers within bounds, where brothers that are asked to be the same share one bound."""
    shared = list(bounds)
    # Twice, as the second of two asks may narrow what the first one has looked at.
    for first, second, same in asks + asks:
        if same:
            shared[first] = shared[second] = min(shared[first], shared[second])
    return tuple([greatest_within(pool, bound) for pool, bound in zip(pools, shared)])


def rows_of_sizes(found, kinds, asks, places):
    """Bounds for the sizes of brothers that have at most so many places together; none of them is needless."""
    pools = [found.get(name, []) for name in kinds]
    shares = [row for row in rows_out_of([list(range(1, places + 1))] * len(kinds)) if sum(row) == places or row == ()]
    rows = list({row_within(pools, share, asks): True for share in shares})
    rows = [row for row in rows if 0 not in row]
    return [row for row in rows if not any([is_wider(other, row) for other in rows])]


def is_wider(other, row):
    """Whether a row of bounds lets all that another one lets, and more."""
    return other != row and all([bound <= more for bound, more in zip(row, other)])


def cut_rules(rules, kind, size):
    """A tuple of rules and of the name of a kind, whose trees are those of a kind up to a size."""
    found = sizes_of_kinds(rules, size)
    made_by = {}
    for rule in rules:
        made_by.setdefault(rule[0], []).append(rule)
    waiting = [(kind, greatest_within(found.get(kind, []), size))]
    numbers = {waiting[0]: 0}
    told = {}
    while waiting:
        upper = waiting.pop()
        for _, sign, kinds, asks in made_by.get(upper[0], []):
            for row in rows_of_sizes(found, kinds, asks, upper[1] - 1):
                beneath = list(zip(kinds, row))
                for pair in beneath:
                    if pair not in numbers:
                        numbers[pair] = len(numbers)
                        waiting.append(pair)
                names = tuple([name_at(numbers[pair]) for pair in beneath])
                told[(name_at(numbers[upper]), sign, names, asks)] = True
    return (list(told), name_at(0))
