"""All trees of a size.

They are counted before they are made, and only trees that stand in some tree
of the size asked for are made: so no list on the way is longer than the last.
"""


def row_counts(signs, most):
    """A table: under brothers and places, how many rows of so many trees have so many places.

    A row of one tree stands for the tree, so counts[1] tells how many trees
    there are of each size.
    """
    counts = [[0] * (most + 1) for _ in range(4)]
    counts[0][0] = 1
    for size in range(1, most + 1):
        counts[1][size] = sum([counts[signs[sign]][size - 1] for sign in signs])
        for brothers in (2, 3):
            counts[brothers][size] = sum([
                counts[1][ahead] * counts[brothers - 1][size - ahead] for ahead in range(1, size)
            ])
    return counts


def rows_with(signs, counts, brothers, places, known):
    """All rows of so many trees that have so many places of signs together."""
    if counts[brothers][places] == 0:
        return []
    if brothers == 0:
        return [()]
    rows = []
    for ahead in range(1, places + 1):
        if counts[1][ahead] > 0 and counts[brothers - 1][places - ahead] > 0:
            ends = rows_with(signs, counts, brothers - 1, places - ahead, known)
            heads = grown(signs, counts, ahead, known)
            rows.extend([(head, *end) for head in heads for end in ends])
    return rows


def grown(signs, counts, size, known):
    """All trees of a size, in no order; known keeps, by size, those made before."""
    if size not in known:
        known[size] = [
            (sign, *row) for sign in signs for row in rows_with(signs, counts, signs[sign], size - 1, known)
        ]
    return known[size]
