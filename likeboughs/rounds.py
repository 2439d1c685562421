"""Counts: how many different trees have a lot, known up to four.

Lots are told by their numbers in a maker ([8] says why four is enough).
"""

from likeboughs.shapes import all_patterns, firsts_of, is_fit

MOST_COUNTED = 4


def rows_of(lots, many):
    """All rows of so many lots."""
    rows = [()]
    for _ in range(many):
        rows = [(*row, lot) for row in rows for lot in lots]
    return rows


def ways(known, row, pattern):
    """In how many ways different brothers can be taken, as many for each lot as its count."""
    number = 1
    taken = []
    for at in firsts_of(pattern):
        number *= known[row[at]] - taken.count(row[at])
        taken.append(row[at])
    return number


def forms_let(known, brothers):
    """The rows of lots and the patterns of so many brothers that counts let, with the number of ways."""
    shapes = all_patterns(brothers)
    forms = [(row, pattern) for row in rows_of(list(known), brothers) for pattern in shapes if is_fit(row, pattern)]
    told = [(row, pattern, ways(known, row, pattern)) for row, pattern in forms]
    return [form for form in told if form[2] > 0]


def steps_let(maker, known):
    """The steps let by counts, as rows (sign, row of lots, pattern, lot told, number of trees made)."""
    forms = {brothers: forms_let(known, brothers) for brothers in sorted(set(list(maker.brothers.values())))}
    return [
        (sign, row, pattern, maker.step(sign, row, pattern), number)
        for sign in maker.brothers for row, pattern, number in forms[maker.brothers[sign]]
    ]


def made_by(steps):
    """A dict from lots to how many different trees of them steps make."""
    made = {}
    for _, _, _, lot, number in steps:
        made[lot] = made.get(lot, 0) + number
    return made


def least_counts(maker):
    """A dict from the lots of a book to their counts."""
    known = {}
    while True:
        made = made_by(steps_let(maker, known))
        counted = {lot: min(MOST_COUNTED, made[lot]) for lot in made}
        if counted == known:
            return known
        known = counted
