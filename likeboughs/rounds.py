"""Steps that counts let: how many different trees have a lot, known up to four.

Lots are told by their numbers in a maker ([8] says why four is enough).
"""

from likeboughs.rows import rows_out_of
from likeboughs.shapes import firsts_of, patterns_that_fit

MOST_COUNTED = 4


def ways(known, row, pattern):
    """In how many ways different brothers can be taken, as many for each lot as its count."""
    number = 1
    taken = []
    for at in firsts_of(pattern):
        number *= known[row[at]] - taken.count(row[at])
        taken.append(row[at])
    return number


def patterns_let(known, row):
    """The patterns of brothers with a row of lots that counts let."""
    return [pattern for pattern in patterns_that_fit(row) if ways(known, row, pattern) > 0]


def forms_let(known, brothers):
    """The rows of lots and the patterns of so many brothers that counts let, with the number of ways."""
    rows = rows_out_of([list(known)] * brothers)
    return [(row, pattern, ways(known, row, pattern)) for row in rows for pattern in patterns_let(known, row)]


def steps_let(maker, known):
    """The steps let by counts, as rows (sign, row of lots, pattern, lot told, number of trees made)."""
    forms = {brothers: forms_let(known, brothers) for brothers in sorted(set(list(maker.brothers.values())))}
    return [
        (sign, row, pattern, maker.step(sign, row, pattern), number)
        for sign in maker.brothers for row, pattern, number in forms[maker.brothers[sign]]
    ]


def made_by(steps):
    """A dict from lots to how many different trees of them steps make."""
    made = {}
    for _, _, _, lot, number in steps:
        made[lot] = made.get(lot, 0) + number
    return made
