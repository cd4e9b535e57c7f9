"""Cuts in lowest numbers, turned and mirrored."""

from squareweb.cuts import in_order, sides
from squareweb.whole import common_divisor


def lowest(cut):
    """The lowest form of a cut: all numbers divided by the greatest one that divides them."""
    divisor = common_divisor([number for square in cut for number in square])
    return [(left // divisor, top // divisor, side // divisor) for left, top, side in cut]


def turned(cut, quarters=1):
    """The cut turned by so many quarters, as a clock's hands go."""
    told = list(cut)
    # Four quarters bring all back, so no more than three are ever needed.
    for quarter in range(quarters % 4):
        told = turned_once(told)
    return told


def mirrored(cut):
    """The cut with left and right exchanged."""
    width = sides(cut)[0]
    return in_order([(width - left - side, top, side) for left, top, side in cut])


def least_form(cut):
    """The least, as a list, of the lowest forms of the cut and its mirrored one, turned in each way."""
    low = lowest(cut)
    return min([turned(form, quarters) for form in [low, mirrored(low)] for quarters in range(4)])


def turned_once(cut):
    """The cut turned by a quarter: what was left lies above, what was below lies left."""
    height = sides(cut)[1]
    return in_order([(height - top - side, left, side) for left, top, side in cut])
