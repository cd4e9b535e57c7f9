"""Rectangles of told sides, cut by steps, and small ones into the fewest squares."""

from squareweb.cuts import in_order
from squareweb.errors import BadSides
from squareweb.joins import refuse_too_many

GREATEST_BY_STEPS = 10 ** 6
GREATEST_FOR_FEWEST = 9


def steps(width, height):
    """The steps (side, many), in order, by which the rectangle is cut."""
    refuse_bad_sides(width, height, GREATEST_BY_STEPS)
    lesser = min(width, height)
    greater = max(width, height)
    told = []
    while lesser > 0:
        told.append((lesser, greater // lesser))
        lesser, greater = greater % lesser, lesser
    return told


def cut_by_steps(width, height):
    """The cut that the steps make of the rectangle."""
    taken = steps(width, height)
    refuse_too_many(sum([many for side, many in taken]))
    left = 0
    top = 0
    squares = []
    for side, many in taken:
        is_from_left = width - left >= height - top
        for square in range(many):
            squares.append((left, top, side))
            if is_from_left:
                left += side
            else:
                top += side
    return in_order(squares)


def fewest(width, height):
    """How many squares the rectangle is cut into at the fewest, and such a cut."""
    refuse_bad_sides(width, height, GREATEST_FOR_FEWEST)
    many = 1
    cut = filled_up([], [0] * width, height, many)
    while cut is None:
        many += 1
        cut = filled_up([], [0] * width, height, many)
    return (many, cut)


def refuse_bad_sides(width, height, greatest):
    """Refuses sides that are not from 1 to the greatest."""
    if not 1 <= width <= greatest or not 1 <= height <= greatest:
        raise BadSides(width, height)


def filled_up(squares, depths, height, many):
    """The squares with at most so many further ones that fill what is free, or None where none do.

    The depths tell for each column how far down from the top it is filled.
    """
    top = min(depths)
    if top == height:
        return squares
    if many == 0:
        return None
    # Some square has its upper left corner at the first free spot, so it is enough to try all sides there.
    left = depths.index(top)
    for side in range(greatest_side_at(depths, left, height), 0, -1):
        deeper = depths[:left] + [top + side] * side + depths[left + side:]
        found = filled_up(squares + [(left, top, side)], deeper, height, many - 1)
        if found is not None:
            return found
    return None


def greatest_side_at(depths, left, height):
    """The side of the greatest square that fits at the depth of this column."""
    side = 0
    while left + side < len(depths) and depths[left + side] == depths[left]:
        side += 1
    return min(side, height - depths[left])
