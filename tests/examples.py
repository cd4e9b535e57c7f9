"""Cuts and other things that several tests use."""

import math

GREATEST = 10 ** 9


def row(many, side=1):
    return [(side * at, 0, side) for at in range(many)]


def column(many, side=1):
    return [(0, side * at, side) for at in range(many)]


ONE = [(0, 0, 1)]
TWO_BESIDE = [(0, 0, 5), (5, 0, 5)]
TWO_OVER = [(0, 0, 5), (0, 5, 5)]
THREE = [(0, 0, 2), (2, 0, 1), (2, 1, 1)]
FOUR_AT_A_SPOT = [(0, 0, 1), (1, 0, 1), (0, 1, 1), (1, 1, 1)]
UNEVEN_AT_A_SPOT = [(0, 0, 2), (2, 0, 2), (0, 2, 1), (1, 2, 1), (2, 2, 2), (0, 3, 1), (1, 3, 1)]
TWO_LINES_AT_ONE_HEIGHT = [(0, 0, 1), (1, 0, 2), (3, 0, 1), (0, 1, 1), (3, 1, 1)]
# 33 by 32, all squares unlike.
UNLIKE = [(0, 0, 18), (18, 0, 15), (18, 15, 7), (25, 15, 8), (0, 18, 14), (14, 18, 4), (14, 22, 10), (24, 22, 1),
          (24, 23, 9)]

CUTS = [ONE, TWO_BESIDE, TWO_OVER, THREE, FOUR_AT_A_SPOT, UNEVEN_AT_A_SPOT, TWO_LINES_AT_ONE_HEIGHT, UNLIKE,
        row(24), column(24), [(0, 0, GREATEST)], row(2, GREATEST), column(2, GREATEST)]


def deep(core, make, times=8):
    thing = core
    for _ in range(times):
        thing = make(thing)
    return thing


def tuple_of(thing):
    return (thing,)


def list_of(thing):
    return [thing]


# Neither a cut nor a touching, a web or streams.
OTHER_THINGS = [
    None, True, False, 0, 1, -1, 10 ** 40 - 1, -(10 ** 40 - 1), "", "cut", "[(0, 0, 1)]", "~ " * 1000,
    [], (), [[]], [()], ([],), ((),), [None], (None,), [0], (0,), [True], (False,), ["ab"], ("ab",), [""], ("",),
    ["abc"], ("ab", "cd"), [0, 0, 1], (0, 0, 1), [None, None], (None, None), ((), ()), [[], []], [(0, 0, 1), None],
    ((None, None), (None, None)), ((0, 1), (1, 0)), ("", ""), (("", ""), ("", "")), (([], [0]), ([0], [])),
    [((), (0,)), ((0,), ())],
    deep(None, tuple_of), deep(None, list_of), deep((0, 0, 1), list_of), deep((0, 0, 1), tuple_of),
    deep(0, tuple_of), deep([(0, 0, 1)], list_of, 5), deep([(0, 0, 1)], tuple_of, 5),
    [None] * 24, [()] * 25, ((),) * 25, [0] * 1000, (0,) * 1000,
]


def in_order(squares):
    return sorted(squares, key=lambda square: (square[1], square[0]))


def all_fillings(width, height, most=24):
    """All cuts of just these sides, of at most so many squares, found by filling the first free cell in each way."""
    found = []

    def fill(squares, taken):
        free = [(y, x) for y in range(height) for x in range(width) if (x, y) not in taken]
        if not free:
            found.append(in_order(squares))
            return
        if len(squares) == most:
            return
        y, x = free[0]
        side = 1
        while x + side <= width and y + side <= height:
            cells = cells_of((x, y, side))
            if cells & taken:
                break
            fill(squares + [(x, y, side)], taken | cells)
            side += 1

    fill([], frozenset())
    return found


def cells_of(square):
    left, top, side = square
    return frozenset((x, y) for x in range(left, left + side) for y in range(top, top + side))


def small_fillings():
    """All cuts of small rectangles."""
    return [cut for width in range(1, 5) for height in range(1, 5) for cut in all_fillings(width, height)]


def painted(cut):
    """The rectangle as rows of cells, each painted with the number of its square."""
    width = max(left + side for left, top, side in cut)
    height = max(top + side for left, top, side in cut)
    rows = [[None] * width for _ in range(height)]
    for number, square in enumerate(cut):
        for x, y in cells_of(square):
            rows[y][x] = number
    return rows


def squares_painted(rows):
    """The cut that is painted so, read off the cells."""
    cells = {}
    for y, cells_across in enumerate(rows):
        for x, number in enumerate(cells_across):
            cells.setdefault(number, []).append((x, y))
    squares = [(min(x for x, y in own), min(y for x, y in own), max(x for x, y in own) - min(x for x, y in own) + 1)
               for own in cells.values()]
    return in_order(squares)


def grown(cut, times):
    return [(left * times, top * times, side * times) for left, top, side in cut]


def lowest_by_hand(cut):
    divisor = math.gcd(*[number for square in cut for number in square])
    return [tuple(number // divisor for number in square) for square in cut]


def renumbered(touching, numbers):
    """The touching with each square's number exchanged for that at its place in numbers."""
    return tuple(tuple(tuple(numbers[number] for number in part) for part in line) for line in touching)


def canonical(touching):
    """One and the same for all touchings that differ only in the squares' numbers and the lines' order."""
    stood_on = {number: at for at, (above, below) in enumerate(touching) for number in above}
    order, numbers = [0], {}
    for at in order:
        for number in touching[at][1]:
            numbers[number] = len(numbers)
            if stood_on[number] not in order:
                order.append(stood_on[number])
    return renumbered([touching[at] for at in order], numbers)


# The greatest side that a lowest cut of so many squares, 1 to 6, has. A side counts trees at most, and six ties have at
# most 16 (five 8, four 5): filling sides from 14 to 16 by six squares, too slow for each run, found none.
GREATEST_SIDES = [1, 2, 3, 5, 8, 13]


def few_square_cuts(most):
    """All lowest cuts of at most so many squares, found by filling."""
    greatest = GREATEST_SIDES[most - 1]
    return [cut for width in range(1, greatest + 1) for height in range(1, greatest + 1)
            for cut in all_fillings(width, height, most) if lowest_by_hand(cut) == cut]
