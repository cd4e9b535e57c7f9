"""Promises 10 and 11, and 2 and 3 where they are about what is built from touchings."""

import fractions
import itertools
import math
import unittest

from squareweb.built import built
from squareweb.cuts import is_cut
from squareweb.lines import is_touching, touching_of
from tests.examples import (CUTS, FOUR_AT_A_SPOT, GREATEST, THREE, TWO_LINES_AT_ONE_HEIGHT, UNLIKE, canonical, column,
                            few_square_cuts, lowest_by_hand, renumbered, row, small_fillings)

MOST = 5


def split_in(numbers, many):
    """All ways to split a tuple into so many parts, none empty."""
    for marks in itertools.combinations(range(1, len(numbers)), many - 1):
        ends = (0,) + marks + (len(numbers),)
        yield [numbers[start:end] for start, end in zip(ends, ends[1:])]


def all_touchings(squares):
    """All touchings of so many squares that are numbered in the order of the belows."""
    for many in range(1, squares + 1):
        for belows in split_in(tuple(range(squares)), many):
            for standing in itertools.permutations(range(squares)):
                for aboves in split_in(standing, many):
                    touching = tuple(zip([()] + aboves, belows + [()]))
                    if is_touching(touching):
                        yield touching


def cuts_by_touching(most):
    """All lowest cuts of at most so many squares, by what all touchings like theirs have in common."""
    return {canonical(touching_of(cut)): cut for cut in few_square_cuts(most)}


def sizes_by_fractions(touching):
    """The sizes of the squares, in lowest numbers, worked out with fractions."""
    last = len(touching) - 1
    hung = {number: at for at, (above, below) in enumerate(touching) for number in below}
    stood = {number: at for at, (above, below) in enumerate(touching) for number in above}
    rows = [[fractions.Fraction(0)] * (last + 1) for _ in range(last)]
    rows[0][last] = fractions.Fraction(1)
    for number in hung:
        for one, other in [(hung[number], stood[number]), (stood[number], hung[number])]:
            if one != last:
                rows[one][one] += 1
                if other != last:
                    rows[one][other] -= 1
    for at in range(last):
        chosen = next(k for k in range(at, last) if rows[k][at])
        rows[at], rows[chosen] = rows[chosen], rows[at]
        rows[at] = [number / rows[at][at] for number in rows[at]]
        for k in range(last):
            if k != at:
                rows[k] = [number - rows[k][at] * other for number, other in zip(rows[k], rows[at])]
    heights = [row[last] for row in rows] + [fractions.Fraction(0)]
    sizes = [heights[hung[number]] - heights[stood[number]] for number in range(len(hung))]
    common = math.lcm(*[height.denominator for height in heights])
    whole = [int(size * common) for size in sizes]
    return [size // math.gcd(*whole) for size in whole]


def row_touching(many):
    numbers = tuple(range(many))
    return ((), numbers), (numbers, ())


class CutTest(unittest.TestCase):
    def is_built(self, touching, cut, places):
        self.assertTrue(is_touching(touching))
        self.assertEqual(built(touching), ("cut", cut, places))

    def test_one_square(self):
        self.is_built((((), (0,)), ((0,), ())), [(0, 0, 1)], (0,))
        self.assertEqual(built(touching=(((), (0,)), ((0,), ()))), ("cut", [(0, 0, 1)], (0,)))

    def test_by_hand(self):
        self.is_built((((), (0, 1)), ((0, 1), ())), [(0, 0, 1), (1, 0, 1)], (0, 1))
        self.is_built((((), (0,)), ((0,), (1,)), ((1,), ())), [(0, 0, 1), (0, 1, 1)], (0, 1))
        self.is_built((((), (0, 1)), ((1,), (2,)), ((0, 2), ())), [(0, 0, 2), (2, 0, 1), (2, 1, 1)], (0, 1, 2))
        self.is_built((((), (0,)), ((0,), (1, 2)), ((1, 2), ())), [(0, 0, 2), (0, 2, 1), (1, 2, 1)], (0, 1, 2))
        self.is_built((((), (0, 1)), ((0, 1), (2, 3)), ((2, 3), ())), FOUR_AT_A_SPOT, (0, 1, 2, 3))

    def test_other_numbers(self):
        self.is_built((((), (1, 0)), ((1, 0), ())), [(0, 0, 1), (1, 0, 1)], (1, 0))
        self.is_built((((), (1, 0)), ((0,), (2,)), ((1, 2), ())), THREE, (1, 0, 2))
        self.is_built((((), (1, 2)), ((2,), (0,)), ((1, 0), ())), THREE, (2, 0, 1))
        self.is_built((((), (2, 0)), ((0,), (1,)), ((2, 1), ())), THREE, (1, 2, 0))

    def test_another_order_of_lines(self):
        # Two lines at one height, the right one ahead.
        self.is_built((((), (0, 1, 2)), ((2,), (4,)), ((0,), (3,)), ((3, 1, 4), ())), TWO_LINES_AT_ONE_HEIGHT,
                      (0, 1, 2, 3, 4))
        # The line at 10 ahead of that at 6.
        self.is_built((((), (0, 1)), ((0,), (2, 3)), ((1,), (4,)), ((4,), (5, 6)), ((2, 3, 5, 6), ())),
                      [(0, 0, 10), (10, 0, 6), (10, 6, 6), (0, 10, 5), (5, 10, 5), (10, 12, 3), (13, 12, 3)],
                      (0, 1, 3, 4, 2, 5, 6))

    def test_24_squares(self):
        self.is_built(row_touching(24), row(24), tuple(range(24)))
        self.is_built(touching_of(column(24)), column(24), tuple(range(24)))
        backward = tuple(reversed(range(24)))
        self.is_built(renumbered(row_touching(24), backward), row(24), backward)

    def test_the_touching_of_a_cut(self):
        for cut in CUTS + small_fillings():
            self.is_built(touching_of(cut), lowest_by_hand(cut), tuple(range(len(cut))))

    def test_in_lowest_numbers(self):
        for times in [2, 6, 10 ** 7]:
            greater = [(left * times, top * times, side * times) for left, top, side in UNLIKE]
            self.is_built(touching_of(greater), UNLIKE, tuple(range(9)))
        self.is_built(touching_of(row(3, GREATEST)), row(3), (0, 1, 2))

    def test_all_numberings(self):
        for cut in [THREE, FOUR_AT_A_SPOT, TWO_LINES_AT_ONE_HEIGHT]:
            for numbers in itertools.permutations(range(len(cut))):
                # The square of the number k in the cut has the number numbers[k] in the touching.
                places = tuple(numbers.index(number) for number in range(len(cut)))
                self.is_built(renumbered(touching_of(cut), numbers), cut, places)

    def test_the_kinds_of_the_answer(self):
        told = built(touching_of(UNLIKE))
        self.assertEqual([type(part) for part in told], [str, list, tuple])
        self.assertIs(type(told), tuple)
        self.assertIs(is_cut(told[1]), True)
        self.assertEqual({type(place) for place in told[2]}, {int})

    def test_the_told_list_is_the_askers_own(self):
        touching = touching_of(UNLIKE)
        told = built(touching)[1]
        self.assertIsNot(built(touching)[1], told)
        told.clear()
        self.assertEqual(built(touching)[1], UNLIKE)


class FlatTest(unittest.TestCase):
    def is_flat(self, touching, number, size):
        self.assertTrue(is_touching(touching))
        self.assertEqual(built(touching), ("flat", number, size))

    def test_nought(self):
        bridge = (((), (0, 1)), ((0,), (2, 3)), ((1, 2), (4,)), ((3, 4), ()))
        self.is_flat(bridge, 2, 0)
        self.is_flat(renumbered(bridge, (1, 2, 0, 3, 4)), 0, 0)
        self.is_flat(renumbered(bridge, (0, 1, 4, 3, 2)), 4, 0)

    def test_below_nought(self):
        # Heights 11, 6, 7, 0: the square 3 goes from the knot at 6 to that at 7.
        self.is_flat((((), (0, 1, 2)), ((0,), (4, 3)), ((3, 1, 2), (5,)), ((4, 5), ())), 3, -1)
        self.is_flat((((), (0, 1, 2)), ((0,), (3, 4)), ((4, 1, 2), (5,)), ((3, 5), ())), 4, -1)

    def test_the_size_is_that_of_the_low_streams(self):
        # Two such, one over the other: full streams have 13 times these sizes.
        upper = (((), (0, 1, 2)), ((0,), (4, 3)), ((3, 1, 2), (5,)))
        lower = (((4, 5), (6, 7, 8)), ((6,), (10, 9)), ((9, 7, 8), (11,)), ((10, 11), ()))
        self.is_flat(upper + lower, 3, -1)

    def test_the_first_such_square(self):
        # One below nought, then one of nought: two webs over one another.
        upper = (((), (0, 1, 2)), ((0,), (4, 3)), ((3, 1, 2), (5,)))
        lower = (((4, 5), (6, 7)), ((6,), (8, 9)), ((7, 8), (10,)), ((9, 10), ()))
        touching = upper + lower
        # The upper one has the width 13, the lower one 2, so the upper sizes are doubled.
        self.is_flat(touching, 3, -2)
        self.is_flat(renumbered(touching, (0, 1, 2, 8, 4, 5, 6, 7, 3, 9, 10)), 3, 0)
        self.is_flat(renumbered(touching, (10, 1, 2, 9, 4, 5, 6, 7, 8, 3, 0)), 8, 0)

    def test_flat_goes_ahead_of_crossed(self):
        # The last line has its squares in the wrong order, too.
        self.is_flat((((), (0, 1)), ((0,), (2, 3)), ((1, 2), (4,)), ((4, 3), ())), 2, 0)
        self.is_flat((((), (0, 1, 2)), ((0,), (4, 3)), ((3, 1, 2), (5,)), ((5, 4), ())), 3, -1)


class CrossedTest(unittest.TestCase):
    def is_crossed(self, touching):
        self.assertTrue(is_touching(touching))
        self.assertEqual(built(touching), ("crossed",))

    def test_the_squares_are_a_cut_but_touch_otherwise(self):
        # In the cut two squares stand in the other order on the last line.
        self.is_crossed((((), (0, 1)), ((1, 0), ())))
        self.is_crossed((((), (0, 1, 2)), ((0, 2, 1), ())))
        # In the cut the two lines at height 1 are one.
        self.is_crossed((((), (0, 1)), ((0,), (2,)), ((1,), (3,)), ((2, 3), ())))
        self.is_crossed((((), (0, 1)), ((1,), (3,)), ((0,), (2,)), ((2, 3), ())))
        # The line of many squares begins where the first one above it does, but not all come in order.
        self.is_crossed((((), (0, 1, 2)), ((0, 2, 1), (3, 4, 5)), ((3, 4, 5), ())))

    def test_the_squares_are_no_cut(self):
        # The line below the right one begins in the middle, and its squares go over the rim.
        self.is_crossed((((), (0, 1)), ((1, 0), (2, 3)), ((2, 3), ())))
        # What stands below the outer two goes over the one between them.
        self.is_crossed((((), (0, 1, 2)), ((0, 2), (3,)), ((1,), (4,)), ((3, 4), ())))

    def test_the_squares_are_no_cut_though_they_touch_so(self):
        # Squares of 4 at 0 and at 7 stand on one of 8 at 0, and four of 3, one below the other at 4, go through it.
        self.is_crossed((((), (0, 1, 2)), ((1,), (3,)), ((0, 2), (4,)), ((3,), (5,)), ((5,), (6,)), ((4, 6), ())))

    def test_24_squares(self):
        numbers = tuple(range(24))
        for at in range(23):
            exchanged = numbers[:at] + (at + 1, at) + numbers[at + 2:]
            self.is_crossed((((), numbers), (exchanged, ())))

    def test_beyond_the_bounds_without_an_error(self):
        for many in [25, 26]:
            for cut in [row(many), column(many)]:
                self.assertIs(type(built(touching_of(cut))), tuple)


class AllTouchingsTest(unittest.TestCase):
    def test_all_of_few_squares(self):
        cuts = cuts_by_touching(MOST)
        met = []
        for squares in range(1, MOST + 1):
            for touching in all_touchings(squares):
                told = built(touching)
                met.append(told[0])
                sizes = sizes_by_fractions(touching)
                flat = [("flat", number, size) for number, size in enumerate(sizes) if size <= 0]
                cut = cuts.get(canonical(touching))
                if flat:
                    self.assertEqual(told, flat[0])
                elif cut is None:
                    self.assertEqual(told, ("crossed",), touching)
                else:
                    self.assertEqual(told[:2], ("cut", cut), touching)
                    self.assertEqual(sorted(renumbered(touching, told[2])), sorted(touching_of(cut)))
        self.assertEqual({word: met.count(word) > 0 for word in met}, {"cut": True, "flat": True, "crossed": True})

    def test_the_touchings_of_all_cuts_of_few_squares(self):
        for cut in cuts_by_touching(MOST).values():
            self.assertEqual(built(touching_of(cut)), ("cut", cut, tuple(range(len(cut)))))

    def test_the_answer_stays(self):
        touchings = list(all_touchings(4)) + [touching_of(cut) for cut in CUTS]
        first = [built(touching) for touching in touchings]
        self.assertEqual([built(touching) for touching in reversed(touchings)], first[::-1])


if __name__ == "__main__":
    unittest.main()
