"""Webs of knots and ties, their streams, and how many trees they have."""

from squareweb.lines import lines_hung_from, lines_stood_on
from squareweb.whole import common_divisor, is_numbers, is_whole

FEWEST_KNOTS = 2
MOST_KNOTS = 25
FEWEST_TIES = 1
MOST_TIES = 40


def is_web(thing):
    """Whether the thing, of any kind, is a web."""
    if not isinstance(thing, tuple) or len(thing) != 2:
        return False
    many, ties = thing
    if not is_whole(many) or not FEWEST_KNOTS <= many <= MOST_KNOTS:
        return False
    if not isinstance(ties, tuple) or not FEWEST_TIES <= len(ties) <= MOST_TIES:
        return False
    return all(is_tie(tie, many) for tie in ties) and has_each_knot_tied(many, ties)


def web_of(touching):
    """The web of a touching: a knot for each line, a tie for each square."""
    hung_from = lines_hung_from(touching)
    stood_on = lines_stood_on(touching)
    ties = tuple((hung_from[number], stood_on[number]) for number in range(len(hung_from)))
    return (len(touching), ties)


def full_streams(web):
    """The streams (heights, sizes) whose width is how many trees the web has."""
    rows = solved(balances(web))
    heights = tuple([row[-1] for row in rows] + [0])
    return (heights, sizes_by(heights, web))


def low_streams(web):
    """The full streams, all divided by the greatest number that divides them."""
    heights, sizes = full_streams(web)
    divisor = common_divisor(heights + sizes)
    return (tuple(height // divisor for height in heights), tuple(size // divisor for size in sizes))


def trees(web):
    """How many trees the web has."""
    return solved(balances(web))[0][0]


def are_streams(web, thing):
    """Whether the thing, of any kind, is streams of the web."""
    if not isinstance(thing, tuple) or len(thing) != 2:
        return False
    heights, sizes = thing
    if not is_numbers(heights) or not is_numbers(sizes):
        return False
    if len(heights) != web[0] or heights[-1] != 0:
        return False
    return sizes == sizes_by(heights, web) and is_balanced(sizes, web)


def is_tie(thing, many):
    """Whether the thing, of any kind, is a tie between two of so many knots, from the lesser one."""
    return is_numbers(thing) and len(thing) == 2 and 0 <= thing[0] < thing[1] < many


def has_each_knot_tied(many, ties):
    """Whether a tie ends at each knot but the first one and a tie begins at each but the last one."""
    beginnings = sorted({one for one, other in ties})
    ends = sorted({other for one, other in ties})
    return beginnings == list(range(many - 1)) and ends == list(range(1, many))


def sizes_by(heights, web):
    """The sizes that the heights give to the ties of the web."""
    return tuple(heights[one] - heights[other] for one, other in web[1])


def is_balanced(sizes, web):
    """Whether at each knot but the first and the last one as much ends as begins."""
    many, ties = web
    left_over = [0] * many
    for (one, other), size in zip(ties, sizes):
        left_over[one] -= size
        left_over[other] += size
    return not any(left_over[1:-1])


def balances(web):
    """For each knot but the last one a row of factors, one for each such knot's height, and what they come to.

    The heights by the factors come to what begins at the knot less what ends there: 1 for knot 0, else 0.
    """
    many, ties = web
    last = many - 1
    # The last knot needs no factors as its height is 0: its place in each row is free for what the others come to.
    rows = [[0] * many for knot in range(last)]
    rows[0][last] = 1
    for one, other in ties:
        rows[one][one] += 1
        if other != last:
            rows[other][other] += 1
            rows[one][other] -= 1
            rows[other][one] -= 1
    return rows


def solved(rows):
    """The balances brought to where each row has but one factor, the same in all: how many trees the web has.

    What the factors come to are then the heights of the full streams.
    """
    # By Kirchhoff's theorem the trees are the determinant of the factors. Where each step is divided by the factor of
    # the step before, all numbers stay determinants of parts of the rows (Bareiss), so no division leaves a rest. And
    # no factor that is divided by is 0: all knots of a web hang together, so the factors are positive definite.
    divisor = 1
    for at in range(len(rows)):
        chosen = rows[at]
        rows = [row if number == at else cleared(row, chosen, at, divisor) for number, row in enumerate(rows)]
        divisor = chosen[at]
    return rows


def cleared(row, chosen, at, divisor):
    """The row without its factor at the place, by so many times the chosen row."""
    return [(chosen[at] * number - row[at] * other) // divisor for number, other in zip(row, chosen)]
