"""Rows of things that are taken out of lists."""


def rows_out_of(pools):
    """All rows of things, one out of each list."""
    rows = [()]
    for pool in pools:
        rows = [(*row, thing) for row in rows for thing in pool]
    return rows


def rows_apart(pools):
    """All rows of different things, one out of each list."""
    rows = [()]
    for pool in pools:
        rows = [(*row, thing) for row in rows for thing in pool if thing not in row]
    return rows
