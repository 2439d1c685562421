"""Frames: trees in which None stands in the place of trees."""

from likeboughs.walks import holes_in, places_of


def is_frame_of(signs, thing):
    """Whether an object is a frame of signs that were checked before."""
    holes = holes_in(signs, thing)
    return holes is not None and holes > 0


def is_surrounding_of(signs, thing):
    """Whether an object is a frame in which None stands just once."""
    return holes_in(signs, thing) == 1


def fill(frame, tree):
    """The tree that a frame is with a tree in each place of None."""
    places = places_of(frame)
    made = [tree] * len(places)
    # Each place's brothers end where those of the next place begin.
    first = len(places)
    for at in reversed(range(len(places))):
        if places[at] is not None:
            end = first
            first = end - len(places[at]) + 1
            made[at] = (places[at][0], *made[first:end])
    return made[0]


def frame_of_levels(trees, levels):
    """The frame that levels make, tuples (sign, brothers), the innermost one first.

    brothers are the numbers of trees, None for the frame that is beneath.
    """
    frame = None
    for sign, brothers in levels:
        frame = (sign, *[frame if number is None else trees[number] for number in brothers])
    return frame
