"""All cuts of so many squares, found by the pushes of touchings."""

from squareweb.built import built
from squareweb.cuts import sides
from squareweb.errors import TooMany
from squareweb.lines import lines_hung_from, lines_stood_on
from squareweb.turns import lowest

MOST_LISTED = 6
TOUCHING_OF_ONE = (((), (0,)), ((0,), ()))


def push_over(touching, many):
    """The touching with a new square over the first so many squares below the first line."""
    new = next_number(touching)
    hanging = touching[0][1]
    pushed = nearest_count(many, len(hanging))
    first_line = ((), (new,) + hanging[pushed:])
    new_line = ((new,), hanging[:pushed])
    return (first_line, new_line) + touching[1:]


def push_beside(touching, many):
    """The touching with a new square beside the first so many squares at the left rim."""
    new = next_number(touching)
    rim = left_rim(touching)
    last_pushed = rim[nearest_count(many, len(rim)) - 1]
    at = lines_stood_on(touching)[last_pushed]
    above, below = touching[at]
    first_line = ((), (new,) + touching[0][1])
    lengthened = ((new,) + above, below)
    return (first_line,) + touching[1:at] + (lengthened,) + touching[at + 1:]


def all_cuts(many):
    """All lowest cuts of so many squares, each once, rising by least side, then greatest side, then as lists."""
    if not 1 <= many <= MOST_LISTED:
        raise TooMany(many)
    answers = [built(touching) for touching in all_pushed(many)]
    return sorted([answer[1] for answer in answers if answer[0] == "cut"], key=listing_key)


def place_of(cut):
    """The place of the cut's lowest form among all cuts of as many squares, counted from 0."""
    return all_cuts(len(cut)).index(lowest(cut))


def nearest_count(many, most):
    """The number from 1 to most that is nearest: what is asked beyond the bounds raises no error."""
    return min(max(many, 1), most)


def next_number(touching):
    """The number that a new square has."""
    return len(lines_hung_from(touching))


def left_rim(touching):
    """The numbers of the squares at the left rim, from the top."""
    stood_on = lines_stood_on(touching)
    rim = []
    below = touching[0][1]
    while below:
        rim.append(below[0])
        below = touching[stood_on[below[0]]][1]
    return rim


def all_pushed(many):
    """All touchings of so many squares that come of one square's by pushes."""
    found = [TOUCHING_OF_ONE]
    # Those of which no cut is built are pushed on, too: a further square may make all sizes come out above nought.
    for squares in range(1, many):
        found = [pushed for touching in found for pushed in all_pushes(touching)]
    return found


def all_pushes(touching):
    """All touchings that come of this one by one push."""
    pushed_over = [push_over(touching, many + 1) for many in range(len(touching[0][1]))]
    pushed_beside = [push_beside(touching, many + 1) for many in range(len(left_rim(touching)))]
    return pushed_over + pushed_beside


def listing_key(cut):
    """What cuts of as many squares are ordered by."""
    width, height = sides(cut)
    return (min(width, height), max(width, height), cut)
