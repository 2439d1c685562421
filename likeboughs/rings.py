"""Rings: frames that can be filled again and again, so that there is no end of trees."""

from heapq import heappop, heappush

from likeboughs.frames import frame_of_levels
from likeboughs.growing import grown_beyond
from likeboughs.groves import Grove
from likeboughs.nursery import some_trees
from likeboughs.shapes import firsts_of


def brothers_beside(held, row, pattern, place):
    """Numbers of small trees for the brothers in a step, None where the one at a place stands.

    That one is a great tree, so it differs from them, whatever they are.
    """
    chosen = {place: None}
    for at in firsts_of(pattern):
        if at != place:
            taken = list(chosen.values())
            chosen[at] = [number for number in held[row[at]] if number not in taken][0]
    return [chosen[at] for at in pattern]


def levels_of(grove, held, steps):
    """The levels that a frame may have, from lots beneath: a dict from these to lists of levels.

    A level is a tuple (lot above, places of signs, holes, (sign, brothers)),
    brothers the numbers of trees, or None for the frame that is beneath. Of all
    levels between two lots with so many holes the one with least places serves.
    """
    best = {}
    for sign, row, pattern, lot in steps:
        for place in firsts_of(pattern):
            brothers = brothers_beside(held, row, pattern, place)
            places = 1 + sum([grove.places[number] for number in brothers if number is not None])
            key = (row[place], lot, brothers.count(None))
            if key not in best or places < best[key][1]:
                best[key] = (lot, places, brothers.count(None), (sign, brothers))
    levels = {}
    for key in best:
        levels.setdefault(key[0], []).append(best[key])
    return levels


def frames_from(levels, start):
    """The smallest frames from trees of a lot to trees of lots, of at least one level.

    A dict from lots to tuples (places of signs, frame), a frame being a list of
    its levels, the innermost one first.
    """
    found = {}
    waiting = [(start, 0, [])]
    queue = [(0, 0)]
    while queue:
        _, at = heappop(queue)
        lot, places, frame = waiting[at]
        if lot not in found:
            # The frame that has no level yet does not count.
            if frame != []:
                found[lot] = (places, frame)
            for upper, more, holes, level in levels.get(lot, []):
                heappush(queue, (more + holes * places, len(waiting)))
                waiting.append((upper, more + holes * places, frame + [level]))
    return found


def outer_from(maker, kind, start, frames):
    """The smallest frame from trees of a lot to those of a kind, as in frames_from; None if there is none."""
    if maker.has(start, kind):
        return (0, [])
    ends = [lot for lot in frames if maker.has(lot, kind)]
    return min([frames[lot] for lot in ends], key=lambda pair: pair[0], default=None)


def ways_round(maker, kind, levels, lots):
    """For each lot that rings go through and from which the kind is come to: (places, lot, frame, outer)."""
    found = []
    for start in lots:
        frames = frames_from(levels, start)
        outer = outer_from(maker, kind, start, frames)
        if start in frames and outer is not None:
            found.append((max(frames[start][0], outer[0]), start, frames[start][1], outer[1]))
    return found


def some_ring(maker, field, kind):
    """A ring of a kind with no end of trees: a tuple (tree, frame, outer)."""
    grove = Grove()
    held = some_trees(grove, field)
    levels = levels_of(grove, held, field.steps)
    ways = ways_round(maker, kind, levels, list(field.counts))
    places, lot, frame, outer = min(ways, key=lambda way: (way[0], way[1]))
    number = grown_beyond(grove, field.steps, held, lot, places)
    trees = grove.trees()
    return (trees[number], frame_of_levels(trees, frame), frame_of_levels(trees, outer))
