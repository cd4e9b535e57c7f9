"""Cuts: rectangles filled by squares, each square a tuple (left, top, side)."""

from squareweb.whole import is_whole

MOST_SQUARES = 24
GREATEST = 10 ** 9


def is_cut(thing):
    """Whether the thing, of any kind, is a cut."""
    if not isinstance(thing, list) or not 1 <= len(thing) <= MOST_SQUARES:
        return False
    if not all(is_square(square) for square in thing):
        return False
    return is_rising(thing) and is_filled(thing)


def sides(cut):
    """The sides of the rectangle, a tuple (width, height)."""
    width = max([left + side for left, top, side in cut])
    height = max([top + side for left, top, side in cut])
    return (width, height)


def like_ones(cut):
    """The first two squares with the same side, a tuple (one, other) of numbers, or None."""
    for one in range(len(cut)):
        for other in range(one + 1, len(cut)):
            if cut[one][2] == cut[other][2]:
                return (one, other)
    return None


def is_square(thing):
    """Whether the thing, of any kind, is a square within the bounds."""
    if not isinstance(thing, tuple) or len(thing) != 3:
        return False
    if not all(is_whole(number) for number in thing):
        return False
    left, top, side = thing
    return left >= 0 and top >= 0 and side >= 1 and max(thing) <= GREATEST


def is_rising(squares):
    """Whether the squares rise by (top, left)."""
    return squares == in_order(squares)


def in_order(squares):
    """The squares as a new list, rising by (top, left)."""
    return sorted(squares, key=lambda square: (square[1], square[0]))


def is_filled(squares):
    """Whether the squares fill their rectangle, none over another one."""
    width, height = sides(squares)
    area = sum([side * side for left, top, side in squares])
    # Squares that lie apart leave no hole just where their areas come to that of the rectangle around them.
    return area == width * height and are_apart(squares)


def are_apart(squares):
    """Whether no square lies over another one."""
    for one in range(len(squares)):
        for other in range(one + 1, len(squares)):
            if is_over(squares[one], squares[other]):
                return False
    return True


def is_over(one, other):
    """Whether two squares have more than spots of their rims in common."""
    return are_crossing(one[0], one[2], other[0], other[2]) and are_crossing(one[1], one[2], other[1], other[2])


def are_crossing(start, length, other_start, other_length):
    """Whether two stretches have more than an end in common."""
    return start < other_start + other_length and other_start < start + length
