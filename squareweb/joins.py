"""Cuts put together, put into one another's squares, and parted."""

from squareweb.cuts import MOST_SQUARES, in_order, sides
from squareweb.errors import NoCut, NoSquare, TooMany
from squareweb.turns import lowest, turned


def beside(one, other):
    """The one cut left of the other one, their heights made the same, in lowest numbers."""
    refuse_too_many(len(one) + len(other))
    width, height = sides(one)
    other_height = sides(other)[1]
    return together(grown(one, other_height, 0, 0), grown(other, height, width * other_height, 0))


def over(one, other):
    """The one cut above the other one, their widths made the same, in lowest numbers."""
    # Turned by three quarters what was above lies left, and one quarter more brings it back.
    return turned(beside(turned(one, 3), turned(other, 3)))


def put_within(cut, number, other):
    """The cut with the other one, of equal sides, in the place of a square, in lowest numbers."""
    if not 0 <= number < len(cut):
        raise NoSquare(number)
    width, height = sides(other)
    if width != height:
        raise NoCut("only a cut of equal sides can be put into a square")
    refuse_too_many(len(cut) - 1 + len(other))
    left, top, side = cut[number]
    others = cut[:number] + cut[number + 1:]
    return together(grown(others, width, 0, 0), grown(other, side, left * width, top * width))


def parted(cut):
    """("beside", parts) by all upright lines that go all the way, else ("over", parts) by flat ones, else ("one",)."""
    parts = parts_beside(cut)
    if len(parts) > 1:
        return ("beside", parts)
    # As in over: what was above lies left.
    parts = [turned(part) for part in parts_beside(turned(cut, 3))]
    if len(parts) > 1:
        return ("over", parts)
    return ("one",)


def refuse_too_many(many):
    """Refuses more squares than a cut may have."""
    if many > MOST_SQUARES:
        raise TooMany(many)


def together(squares, others):
    """The cut, in lowest numbers, that all these squares make."""
    return lowest(in_order(squares + others))


def grown(squares, times, right, down):
    """The squares so many times as great, then moved to the right and down."""
    return [(left * times + right, top * times + down, side * times) for left, top, side in squares]


def parts_beside(cut):
    """What the upright lines that go all the way part, from the left, each in lowest numbers."""
    starts = sorted({left for left, top, side in cut if is_passed(cut, left)})
    ends = starts[1:] + [sides(cut)[0]]
    return [lowest(part_between(cut, start, end)) for start, end in zip(starts, ends)]


def is_passed(cut, x):
    """Whether an upright line at x goes all the way without going through a square."""
    return not any(left < x < left + side for left, top, side in cut)


def part_between(cut, start, end):
    """The squares between two upright lines, moved to the left rim."""
    return [(left - start, top, side) for left, top, side in cut if start <= left < end]
