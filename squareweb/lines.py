"""The flat lines of a cut, and touchings: how squares touch, line by line."""

from squareweb.cuts import MOST_SQUARES
from squareweb.whole import is_numbers

FEWEST_LINES = 2
MOST_LINES = 25


def lines(cut):
    """The lines of a cut, tuples (y, left, right, above, below), rising by (y, left)."""
    bottoms = sorted([(top + side, left, number) for number, (left, top, side) in enumerate(cut)])
    tops = sorted([(top, left, number) for number, (left, top, side) in enumerate(cut)])
    told = []
    for y, left, right in joined(stretches(cut)):
        told.append((y, left, right, numbers_on(y, left, right, bottoms), numbers_on(y, left, right, tops)))
    return told


def is_touching(thing):
    """Whether the thing, of any kind, is a touching."""
    if not isinstance(thing, tuple) or not FEWEST_LINES <= len(thing) <= MOST_LINES:
        return False
    if not all(is_line(line) for line in thing):
        return False
    return is_empty_at_rim_only(thing) and has_each_number_once(thing) and is_falling(thing)


def touching_of(cut):
    """The touching of a cut: that of its lines, in order."""
    return tuple((above, below) for y, left, right, above, below in lines(cut))


def stretches(cut):
    """The tops and bottoms of all squares, tuples (y, left, right), rising."""
    found = []
    for left, top, side in cut:
        found.append((top, left, left + side))
        found.append((top + side, left, left + side))
    return sorted(found)


def joined(rising):
    """The rising stretches (y, left, right), those with a spot in common made one."""
    whole = []
    for y, left, right in rising:
        if whole and whole[-1][0] == y and left <= whole[-1][2]:
            whole[-1] = (y, whole[-1][1], max(right, whole[-1][2]))
        else:
            whole.append((y, left, right))
    return whole


def numbers_on(y, left, right, edges):
    """The numbers of the rising edges (y, left, number) that lie on the line, from the left."""
    return tuple(number for edge_y, edge_left, number in edges if edge_y == y and left <= edge_left < right)


def is_line(thing):
    """Whether the thing, of any kind, is a tuple (above, below) of tuples of whole numbers."""
    return isinstance(thing, tuple) and len(thing) == 2 and is_numbers(thing[0]) and is_numbers(thing[1])


def is_empty_at_rim_only(touching):
    """Whether just the first line has nothing above and just the last one nothing below."""
    bare_above = [at for at, (above, below) in enumerate(touching) if not above]
    bare_below = [at for at, (above, below) in enumerate(touching) if not below]
    return bare_above == [0] and bare_below == [len(touching) - 1]


def has_each_number_once(touching):
    """Whether each square's number stands once in all aboves and once in all belows."""
    standing = sorted([number for above, below in touching for number in above])
    hanging = sorted([number for above, below in touching for number in below])
    many = len(hanging)
    return 1 <= many <= MOST_SQUARES and hanging == list(range(many)) and standing == hanging


def is_falling(touching):
    """Whether each square stands on a later line than that below which it hangs."""
    hung_from = lines_hung_from(touching)
    stood_on = lines_stood_on(touching)
    return all(hung_from[number] < stood_on[number] for number in hung_from)


def lines_hung_from(touching):
    """For each square's number the place of the line below which it hangs."""
    return {number: at for at, (above, below) in enumerate(touching) for number in below}


def lines_stood_on(touching):
    """For each square's number the place of the line on which it stands."""
    return {number: at for at, (above, below) in enumerate(touching) for number in above}
