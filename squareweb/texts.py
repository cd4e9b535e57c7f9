"""Cuts written as texts, and read from them."""

from squareweb.cuts import MOST_SQUARES, is_cut, sides
from squareweb.errors import NoText
from squareweb.lines import touching_of

MOST_FIGURES = 10


def cut_text(cut):
    """The text of a cut: its sides, then line by line the sides of the squares below."""
    width, height = sides(cut)
    rows = [sides_text(cut, below) for above, below in touching_of(cut)[:-1]]
    return f"{width} {height}: " + ", ".join(rows)


def read_cut(text):
    """The cut that the text is written of; NoText of any thing that is no such text."""
    if not isinstance(text, str):
        raise NoText("what is no text is that of no cut")
    words = text.replace(":", "").replace(",", "").split(" ")
    if not 3 <= len(words) <= 2 + MOST_SQUARES or not all(is_number(word) for word in words):
        raise NoText("this text is not made of the numbers of a cut")
    width, height, *lengths = [int(word) for word in words]
    cut = laid_from_top(width, lengths)
    # A cut has just one text, so all that was passed over above (signs, blanks, the height) is checked here at once.
    if not is_cut(cut) or cut_text(cut) != text:
        raise NoText("no cut is written so")
    return cut


def sides_text(cut, numbers):
    """The sides of the squares of these numbers, with blanks between."""
    return " ".join([str(cut[number][2]) for number in numbers])


def is_number(word):
    """Whether the word is a number as it is written in texts."""
    if not 1 <= len(word) <= MOST_FIGURES or not all("0" <= sign <= "9" for sign in word):
        return False
    return word == "0" or word[0] != "0"


def laid_from_top(width, lengths):
    """Squares of these sides, in order, each at the first spot that is free then."""
    # The squares of a cut rise by (top, left), as do its lines, so in a text they stand in the order of their numbers.
    squares = []
    for side in lengths:
        left, top = first_free_spot(squares, width)
        squares.append((left, top, side))
    return squares


def first_free_spot(squares, width):
    """The spot (left, top) that is first by (top, left) below the squares that were laid from the top."""
    # The depth changes only where squares end, so no other spots need to be looked at.
    ends = [left + side for left, top, side in squares if left + side < width]
    top, left = min([(depth_at(squares, x), x) for x in [0] + ends])
    return (left, top)


def depth_at(squares, x):
    """How far down the squares reach just right of x."""
    return max([0] + [top + side for left, top, side in squares if left <= x < left + side])
