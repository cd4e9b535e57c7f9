"""Promises 17 and 18, and 2 and 3 where they are about told sides."""

import unittest

from squareweb.cuts import is_cut, sides
from squareweb.errors import BadSides, SquareError, TooMany
from squareweb.rows import cut_by_steps, fewest, steps
from tests.examples import GREATEST, all_fillings, column, in_order, row

MILLION = 10 ** 6
NO_SIDES = [0, -1, -9, MILLION + 1, GREATEST, 10 ** 40 - 1, -(10 ** 40 - 1), 10 ** 5000]
# The fewest squares for the widths from 1 to 9 (down) and the heights from 1 to 9 (across).
FEWEST = [
    [1, 2, 3, 4, 5, 6, 7, 8, 9],
    [2, 1, 3, 2, 4, 3, 5, 4, 6],
    [3, 3, 1, 4, 4, 2, 5, 5, 3],
    [4, 2, 4, 1, 5, 3, 5, 2, 6],
    [5, 4, 4, 5, 1, 5, 5, 5, 6],
    [6, 3, 2, 3, 5, 1, 5, 4, 3],
    [7, 5, 5, 5, 5, 5, 1, 7, 6],
    [8, 4, 5, 2, 5, 4, 7, 1, 7],
    [9, 6, 3, 6, 6, 3, 6, 7, 1],
]


def squares_by_steps(left, top, width, height):
    """The squares cut off one by one, with no count of how many fit."""
    if width == 0 or height == 0:
        return []
    if width >= height:
        return [(left, top, height)] + squares_by_steps(left + height, top, width - height, height)
    return [(left, top, width)] + squares_by_steps(left, top + width, width, height - width)


class RefusalsTest(unittest.TestCase):
    def refuses_sides(self, ask, width, height):
        with self.assertRaises(BadSides) as caught:
            ask(width, height)
        self.assertEqual((caught.exception.width, caught.exception.height), (width, height))
        self.assertIsInstance(caught.exception, SquareError)

    def test_sides_that_are_none(self):
        for ask in [steps, cut_by_steps, fewest]:
            for side in NO_SIDES:
                self.refuses_sides(ask, side, 5)
                self.refuses_sides(ask, 5, side)
                self.refuses_sides(ask, side, side)
                self.refuses_sides(ask, side, 0)

    def test_sides_that_are_too_great_for_the_fewest(self):
        for side in [10, 11, 13, 100, MILLION]:
            self.refuses_sides(fewest, side, 1)
            self.refuses_sides(fewest, 9, side)
            self.refuses_sides(fewest, side, side)

    def test_the_greatest_sides(self):
        self.assertEqual(steps(MILLION, MILLION), [(MILLION, 1)])
        self.assertEqual(cut_by_steps(MILLION, MILLION), [(0, 0, MILLION)])
        self.refuses_sides(steps, MILLION + 1, MILLION + 1)
        self.refuses_sides(cut_by_steps, MILLION, MILLION + 1)

    def refuses_too_many(self, many, width, height):
        with self.assertRaises(TooMany) as caught:
            cut_by_steps(width, height)
        self.assertEqual(caught.exception.many, many)
        self.assertIsInstance(caught.exception, SquareError)

    def test_24_and_25_squares(self):
        self.assertEqual(cut_by_steps(24, 1), row(24))
        self.assertEqual(cut_by_steps(1, 24), column(24))
        # 20 of 5, then 2 of 2, then 2 of 1 ...
        self.assertEqual(len(cut_by_steps(102, 5)), 24)
        self.assertEqual(len(cut_by_steps(5, 102)), 24)
        self.refuses_too_many(25, 25, 1)
        self.refuses_too_many(25, 1, 25)
        self.refuses_too_many(25, 25 * 7, 7)
        # ... and one more.
        self.refuses_too_many(25, 107, 5)
        self.refuses_too_many(25, 5, 107)

    def test_far_too_many(self):
        self.refuses_too_many(MILLION, MILLION, 1)
        self.refuses_too_many(MILLION, 1, MILLION)
        self.refuses_too_many(MILLION, MILLION, MILLION - 1)
        self.assertEqual(steps(MILLION, 1), [(1, MILLION)])
        self.assertEqual(steps(MILLION - 1, MILLION), [(MILLION - 1, 1), (1, MILLION - 1)])

    def test_bad_sides_go_ahead_of_too_many(self):
        self.refuses_sides(cut_by_steps, MILLION + 1, 1)
        self.refuses_sides(cut_by_steps, 1, MILLION + 1)


class StepsTest(unittest.TestCase):
    def test_by_hand(self):
        self.assertEqual(steps(1, 1), [(1, 1)])
        self.assertEqual(steps(5, 3), [(3, 1), (2, 1), (1, 2)])
        self.assertEqual(steps(3, 5), [(3, 1), (2, 1), (1, 2)])
        self.assertEqual(steps(width=13, height=4), [(4, 3), (1, 4)])
        self.assertEqual(steps(height=7, width=30), [(7, 4), (2, 3), (1, 2)])

    def test_a_rest_that_fits(self):
        self.assertEqual(steps(6, 4), [(4, 1), (2, 2)])
        self.assertEqual(steps(12, 4), [(4, 3)])
        self.assertEqual(steps(9, 9), [(9, 1)])
        self.assertEqual(steps(MILLION, MILLION // 2), [(MILLION // 2, 2)])

    def test_many_steps(self):
        # Fibonacci's sides have the most steps.
        told = steps(832040, 514229)
        self.assertEqual(len(told), 28)
        self.assertEqual(told[:2] + told[-2:], [(514229, 1), (317811, 1), (2, 1), (1, 2)])

    def test_one_by_one(self):
        for width in range(1, 31):
            for height in range(1, 31):
                found = [side for left, top, side in squares_by_steps(0, 0, width, height)]
                expected = [(side, found.count(side)) for side in sorted(set(found), reverse=True)]
                self.assertEqual(steps(width, height), expected)

    def test_the_kinds_of_the_answer(self):
        told = steps(30, 7)
        self.assertIs(type(told), list)
        self.assertEqual({type(step) for step in told}, {tuple})

    def test_the_told_list_is_the_askers_own(self):
        first = steps(5, 3)
        self.assertIsNot(steps(5, 3), first)
        first.clear()
        self.assertEqual(steps(5, 3), [(3, 1), (2, 1), (1, 2)])


class CutByStepsTest(unittest.TestCase):
    def test_by_hand(self):
        self.assertEqual(cut_by_steps(1, 1), [(0, 0, 1)])
        self.assertEqual(cut_by_steps(width=5, height=3), [(0, 0, 3), (3, 0, 2), (3, 2, 1), (4, 2, 1)])
        self.assertEqual(cut_by_steps(height=5, width=3), [(0, 0, 3), (0, 3, 2), (2, 3, 1), (2, 4, 1)])
        self.assertEqual(cut_by_steps(7, 3), [(0, 0, 3), (3, 0, 3), (6, 0, 1), (6, 1, 1), (6, 2, 1)])

    def test_of_just_these_sides_not_lowest(self):
        self.assertEqual(cut_by_steps(4, 4), [(0, 0, 4)])
        self.assertEqual(cut_by_steps(6, 4), [(0, 0, 4), (4, 0, 2), (4, 2, 2)])
        self.assertEqual(cut_by_steps(MILLION, MILLION // 2), [(0, 0, MILLION // 2), (MILLION // 2, 0, MILLION // 2)])

    def test_one_by_one(self):
        for width in range(1, 31):
            for height in range(1, 31):
                expected = in_order(squares_by_steps(0, 0, width, height))
                if len(expected) > 24:
                    with self.assertRaises(TooMany) as caught:
                        cut_by_steps(width, height)
                    self.assertEqual(caught.exception.many, len(expected))
                    continue
                told = cut_by_steps(width, height)
                self.assertEqual(told, expected)
                self.assertIs(is_cut(told), True)
                self.assertEqual(sides(told), (width, height))

    def test_as_many_squares_as_the_steps_tell(self):
        for width, height in [(28657, 46368), (46368, 28657), (999999, 999999), (100, 37)]:
            self.assertEqual(len(cut_by_steps(width, height)), sum(many for side, many in steps(width, height)))

    def test_the_told_list_is_the_askers_own(self):
        first = cut_by_steps(6, 4)
        self.assertIsNot(cut_by_steps(6, 4), first)
        first.clear()
        self.assertEqual(cut_by_steps(6, 4), [(0, 0, 4), (4, 0, 2), (4, 2, 2)])


class FewestTest(unittest.TestCase):
    def test_by_hand(self):
        self.assertEqual(fewest(1, 1), (1, [(0, 0, 1)]))
        self.assertEqual(fewest(9, 9), (1, [(0, 0, 9)]))
        self.assertEqual(fewest(width=2, height=1), (2, row(2)))
        self.assertEqual(fewest(height=9, width=1), (9, column(9)))
        self.assertEqual(fewest(8, 4), (2, row(2, 4)))

    def test_fewer_than_by_steps(self):
        # By steps 6 squares: one of 5 and five of 1.
        self.assertEqual(len(cut_by_steps(6, 5)), 6)
        self.assertEqual(fewest(6, 5)[0], 5)

    def test_how_many(self):
        for width in range(1, 10):
            self.assertEqual([fewest(width, height)[0] for height in range(1, 10)], FEWEST[width - 1])

    def test_a_cut_of_just_these_sides(self):
        for width in range(1, 10):
            for height in range(1, 10):
                told = fewest(width, height)
                self.assertIs(type(told), tuple)
                many, cut = told
                self.assertIs(type(many), int)
                self.assertIs(is_cut(cut), True)
                self.assertEqual((len(cut), sides(cut)), (many, (width, height)))

    def test_there_is_none_of_fewer_squares(self):
        for width in range(1, 10):
            for height in range(1, 10):
                self.assertEqual(all_fillings(width, height, fewest(width, height)[0] - 1), [])

    def test_the_answer_stays_and_is_the_askers_own(self):
        first = fewest(9, 8)
        kept = list(first[1])
        self.assertIsNot(fewest(9, 8)[1], first[1])
        first[1].clear()
        self.assertEqual(fewest(9, 8), (7, kept))


if __name__ == "__main__":
    unittest.main()
