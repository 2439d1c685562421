"""Patterns: which of several brothers are one and the same tree."""

from likeboughs.words import is_between

# For each pattern the patterns in which no brothers are the same but those that are in it.
FINER = {
    (): ((),),
    (0,): ((0,),),
    (0, 0): ((0, 0), (0, 1)),
    (0, 1): ((0, 1),),
    (0, 0, 0): ((0, 0, 0), (0, 0, 2), (0, 1, 0), (0, 1, 1), (0, 1, 2)),
    (0, 0, 2): ((0, 0, 2), (0, 1, 2)),
    (0, 1, 0): ((0, 1, 0), (0, 1, 2)),
    (0, 1, 1): ((0, 1, 1), (0, 1, 2)),
    (0, 1, 2): ((0, 1, 2),),
}


def pattern_in(row):
    """For each place of a row the first place that holds the same."""
    return tuple([row.index(thing) for thing in row])


def all_patterns(many):
    """The ascending list of all patterns of so many brothers."""
    return list(FINER[(0,) * many])


def patterns_that_fit(row):
    """The patterns of brothers with a row of lots: brothers that are the same have the same lot."""
    return FINER[pattern_in(row)]


def is_pattern(many, thing):
    """Whether an object is a pattern of so many brothers."""
    if not isinstance(thing, tuple) or len(thing) != many:
        return False
    return all([is_between(first, 0, at) and thing[first] == first for at, first in enumerate(thing)])


def is_fit(row, pattern):
    """Whether brothers that a pattern says are the same have the same lot in a row of lots."""
    return all([row[at] == row[first] for at, first in enumerate(pattern)])


def firsts_of(pattern):
    """The places of a pattern at which a tree stands that does not stand further ahead."""
    return [at for at, first in enumerate(pattern) if first == at]


def asks_hold(asks, pattern):
    """Whether each ask holds of brothers with a pattern."""
    return all([(pattern[first] == pattern[second]) == same for first, second, same in asks])
