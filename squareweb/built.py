"""What is built from a touching: a cut, or why there is none."""

from squareweb.cuts import in_order, is_cut
from squareweb.lines import touching_of
from squareweb.webs import low_streams, web_of


def built(touching):
    """("cut", cut, places), or ("flat", number, size) or ("crossed",) where the touching is of no cut."""
    heights, sizes = low_streams(web_of(touching))
    for number, size in enumerate(sizes):
        if size <= 0:
            return ("flat", number, size)
    laid = laid_squares(touching, heights, sizes)
    cut = in_order(laid)
    if not is_cut(cut):
        return ("crossed",)
    places = tuple(cut.index(square) for square in laid)
    if not is_touched_so(cut, touching, places):
        return ("crossed",)
    return ("cut", cut, places)


def laid_squares(touching, heights, sizes):
    """The squares in the order of their numbers in the touching, laid line by line."""
    squares = {}
    for at, (above, below) in enumerate(touching):
        left = squares[above[0]][0] if above else 0
        for number in below:
            squares[number] = (left, heights[0] - heights[at], sizes[number])
            left += sizes[number]
    return [squares[number] for number in range(len(sizes))]


def is_touched_so(cut, touching, places):
    """Whether the cut has the touching, but for the lines' order, each square having its place as its number."""
    renumbered = [(numbers_by(places, above), numbers_by(places, below)) for above, below in touching]
    return sorted(renumbered) == sorted(touching_of(cut))


def numbers_by(places, numbers):
    """The numbers that the squares have by their places in the cut."""
    return tuple(places[number] for number in numbers)
