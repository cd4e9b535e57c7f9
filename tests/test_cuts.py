"""Promises 4 and 5, and 2 where it is about cuts."""

import copy
import itertools
import unittest

from squareweb.cuts import is_cut, like_ones, sides
from tests.examples import (CUTS, FOUR_AT_A_SPOT, GREATEST, ONE, OTHER_THINGS, THREE, TWO_BESIDE,
                            TWO_LINES_AT_ONE_HEIGHT, TWO_OVER, UNEVEN_AT_A_SPOT, UNLIKE, cells_of, column, deep,
                            in_order, list_of, row, small_fillings, tuple_of)


def with_one_replaced(cut, number, square):
    return cut[:number] + [square] + cut[number + 1:]


def is_cut_by_cells(squares):
    """Counts cells, as a check that shares nothing with the program."""
    width = max(left + side for left, top, side in squares)
    height = max(top + side for left, top, side in squares)
    counts = {}
    for square in squares:
        for cell in cells_of(square):
            counts[cell] = counts.get(cell, 0) + 1
    places = [(top, left) for left, top, side in squares]
    filled = counts == {(x, y): 1 for x in range(width) for y in range(height)}
    return filled and places == sorted(places)


class IsCutTest(unittest.TestCase):
    def is_told(self, thing, told):
        self.assertIs(is_cut(thing), told, thing)

    def test_cuts(self):
        for cut in CUTS:
            self.is_told(cut, True)
        self.assertIs(is_cut(thing=ONE), True)

    def test_all_small_fillings(self):
        for cut in small_fillings():
            self.is_told(cut, True)

    def test_one_square_away_from_the_corner(self):
        self.is_told([(1, 0, 1)], False)
        self.is_told([(0, 1, 1)], False)
        self.is_told([(1, 1, 1)], False)

    def test_wrong_order(self):
        for cut in CUTS:
            for one, other in itertools.combinations(range(len(cut)), 2):
                exchanged = list(cut)
                exchanged[one], exchanged[other] = cut[other], cut[one]
                self.is_told(exchanged, False)
        # By (left, top) in place of (top, left).
        self.is_told([(0, 0, 1), (0, 1, 1), (1, 0, 1), (1, 1, 1)], False)

    def test_one_left_out(self):
        for cut in [THREE, FOUR_AT_A_SPOT, UNLIKE, UNEVEN_AT_A_SPOT, TWO_LINES_AT_ONE_HEIGHT]:
            for number in range(len(cut)):
                self.is_told(cut[:number] + cut[number + 1:], False)

    def test_one_told_twice(self):
        for cut in CUTS:
            for number in range(len(cut)):
                self.is_told(cut[:number + 1] + cut[number:], False)

    def test_one_moved_or_of_another_side(self):
        for cut in [TWO_BESIDE, TWO_OVER, THREE, FOUR_AT_A_SPOT, UNEVEN_AT_A_SPOT, TWO_LINES_AT_ONE_HEIGHT, UNLIKE]:
            for number, (left, top, side) in enumerate(cut):
                others = [(left + 1, top, side), (left - 1, top, side), (left, top + 1, side), (left, top - 1, side),
                          (left, top, side + 1), (left, top, side - 1)]
                for square in others:
                    changed = with_one_replaced(cut, number, square)
                    self.is_told(changed, False)
                    self.is_told(in_order(changed), False)

    def test_a_hole(self):
        self.is_told([(0, 0, 2), (2, 0, 1), (3, 0, 1), (2, 1, 1)], False)
        around = [(x, y, 1) for y in range(3) for x in range(3) if (x, y) != (1, 1)]
        self.is_told(around, False)

    def test_a_rim_that_is_not_filled(self):
        self.is_told([(0, 0, 2), (2, 0, 1)], False)
        self.is_told([(0, 0, 2), (0, 2, 1)], False)
        self.is_told([(1, 0, 1), (2, 0, 1)], False)
        self.is_told([(0, 1, 1), (0, 2, 1)], False)

    def test_one_over_another_one(self):
        self.is_told([(0, 0, 2), (1, 0, 2)], False)
        self.is_told([(0, 0, 2), (0, 1, 2)], False)
        self.is_told([(0, 0, 3), (1, 1, 1)], False)
        self.is_told([(0, 0, 1), (0, 0, 1)], False)
        self.is_told([(0, 0, 2), (0, 0, 1)], False)

    def test_one_over_another_one_and_a_hole_as_great(self):
        self.is_told([(0, 0, 2), (2, 0, 1), (3, 0, 1), (1, 1, 1), (3, 1, 1)], False)
        self.is_told([(0, 0, 2), (1, 0, 1), (3, 0, 1), (2, 1, 1), (3, 1, 1)], False)
        self.is_told([(0, 0, 2), (0, 1, 1), (1, 2, 1), (0, 3, 1), (1, 3, 1)], False)

    def test_all_lists_of_three_small_squares(self):
        squares = [(left, top, side) for left in range(3) for top in range(3) for side in range(1, 4)]
        for many in range(1, 4):
            for told in itertools.product(squares, repeat=many):
                self.assertIs(is_cut(list(told)), is_cut_by_cells(told), told)

    def test_24_squares_and_25(self):
        for make in [row, column]:
            self.is_told(make(23), True)
            self.is_told(make(24), True)
            self.is_told(make(25), False)
            self.is_told(make(26), False)
        self.is_told([(x, y, 1) for y in range(4) for x in range(6)], True)
        self.is_told([(x, y, 1) for y in range(5) for x in range(5)], False)

    def test_the_greatest_side(self):
        self.is_told([(0, 0, GREATEST - 1)], True)
        self.is_told([(0, 0, GREATEST)], True)
        self.is_told([(0, 0, GREATEST + 1)], False)
        self.is_told([(0, 0, 10 ** 40 - 1)], False)

    def test_the_greatest_left_and_top(self):
        for make in [row, column]:
            self.is_told(make(2, GREATEST), True)
            self.is_told(make(3, GREATEST // 2), True)
            self.is_told(make(3, GREATEST), False)
            # The eighth square begins at 10 ** 9 + 1.
            self.is_told(make(7, 142857143), True)
            self.is_told(make(8, 142857143), False)

    def test_below_nought(self):
        self.is_told([(-1, 0, 1)], False)
        self.is_told([(0, -1, 1)], False)
        self.is_told([(-1, -1, 2)], False)
        # What lies outside is as great as the hole.
        self.is_told([(-1, 0, 1), (1, 0, 1)], False)
        self.is_told([(0, -1, 1), (0, 1, 1)], False)

    def test_no_side_of_nought_or_below(self):
        self.is_told([(0, 0, 0)], False)
        self.is_told([(0, 0, -1)], False)
        self.is_told([(0, 0, 1), (1, 0, 0)], False)
        self.is_told([(0, 0, 1), (0, 1, 0)], False)
        self.is_told([(0, 0, 2), (1, 1, 0)], False)
        self.is_told([(0, 0, 1), (1, 1, -1)], False)

    def test_lists_in_place_of_tuples(self):
        for cut in [ONE, THREE, UNLIKE]:
            for number in range(len(cut)):
                self.is_told(with_one_replaced(cut, number, list(cut[number])), False)
            self.is_told([list(square) for square in cut], False)

    def test_a_tuple_in_place_of_the_list(self):
        for cut in CUTS:
            self.is_told(tuple(cut), False)

    def test_truths_in_place_of_numbers(self):
        self.is_told([(False, 0, 1)], False)
        self.is_told([(0, False, 1)], False)
        self.is_told([(0, 0, True)], False)
        self.is_told([(False, False, True)], False)
        self.is_told([(0, 0, 1), (True, 0, 1)], False)
        self.is_told([(0, 0, 1), (0, True, 1)], False)

    def test_other_things_in_place_of_a_number(self):
        for other in [None, "0", "", "1", [], (), [1], (1,), [0], deep(0, tuple_of, 6), deep(1, list_of, 6)]:
            for at in range(3):
                for cut in [ONE, THREE]:
                    square = cut[-1][:at] + (other,) + cut[-1][at + 1:]
                    self.is_told(cut[:-1] + [square], False)

    def test_other_things_in_place_of_a_square(self):
        for other in OTHER_THINGS:
            if other != (0, 0, 1):
                self.is_told([other], False)
            self.is_told(THREE[:-1] + [other], False)
            self.is_told([other] + THREE[1:], False)

    def test_squares_of_other_lengths(self):
        for square in [(), (0,), (0, 0), (0, 0, 1, 1), (0, 0, 1, 0), (0, 0, 1, None)]:
            self.is_told([square], False)
            self.is_told([(0, 0, 1), square], False)

    def test_things_that_are_no_cuts(self):
        for thing in OTHER_THINGS:
            self.is_told(thing, False)
        self.is_told([ONE], False)
        self.is_told([THREE, THREE], False)

    def test_nothing_is_changed_and_the_answer_stays(self):
        for thing in CUTS + OTHER_THINGS + [row(25), list(reversed(UNLIKE))]:
            before = copy.deepcopy(thing)
            first = is_cut(thing)
            self.assertIs(is_cut(thing), first)
            self.assertEqual(repr(thing), repr(before))


class SidesTest(unittest.TestCase):
    def test_one_square(self):
        self.assertEqual(sides(ONE), (1, 1))
        self.assertEqual(sides([(0, 0, GREATEST)]), (GREATEST, GREATEST))

    def test_wide_and_high(self):
        self.assertEqual(sides(TWO_BESIDE), (10, 5))
        self.assertEqual(sides(TWO_OVER), (5, 10))
        self.assertEqual(sides(row(24)), (24, 1))
        self.assertEqual(sides(column(24)), (1, 24))
        self.assertEqual(sides(row(2, GREATEST)), (2 * GREATEST, GREATEST))
        self.assertEqual(sides(column(2, GREATEST)), (GREATEST, 2 * GREATEST))
        self.assertEqual(sides(cut=THREE), (3, 2))

    def test_where_the_last_square_is_not_at_the_corner(self):
        self.assertEqual(sides(UNLIKE), (33, 32))
        self.assertEqual(sides(UNEVEN_AT_A_SPOT), (4, 4))
        self.assertEqual(sides([(0, 0, 1), (1, 0, 2), (0, 1, 1)]), (3, 2))

    def test_all_small_fillings(self):
        for cut in small_fillings():
            cells = [cell for square in cut for cell in cells_of(square)]
            self.assertEqual(sides(cut), (max(x for x, y in cells) + 1, max(y for x, y in cells) + 1))

    def test_the_kind_of_the_answer(self):
        self.assertIs(type(sides(THREE)), tuple)

    def test_beyond_the_bounds(self):
        self.assertEqual(sides(row(26, GREATEST + 1)), (26 * GREATEST + 26, GREATEST + 1))

    def test_nothing_is_changed_and_the_answer_stays(self):
        cut = list(UNLIKE)
        self.assertEqual(sides(cut), sides(cut))
        self.assertEqual(cut, UNLIKE)


class LikeOnesTest(unittest.TestCase):
    def test_the_first_pair(self):
        self.assertEqual(like_ones(TWO_BESIDE), (0, 1))
        self.assertEqual(like_ones(FOUR_AT_A_SPOT), (0, 1))
        self.assertEqual(like_ones(row(24)), (0, 1))
        self.assertEqual(like_ones(cut=column(24)), (0, 1))

    def test_the_first_pair_is_not_the_first_squares(self):
        self.assertEqual(like_ones(THREE), (1, 2))
        self.assertEqual(like_ones([(0, 0, 3), (3, 0, 2), (3, 2, 1), (4, 2, 1)]), (2, 3))

    def test_the_least_one_goes_before_the_least_other(self):
        # 1 and 2 are like, but so are 0 and 3.
        cut = [(0, 0, 2), (2, 0, 1), (3, 0, 1), (2, 1, 1), (3, 1, 1), (4, 0, 2)]
        cut = in_order(cut)
        self.assertTrue(is_cut(cut))
        self.assertEqual([side for left, top, side in cut], [2, 1, 1, 2, 1, 1])
        self.assertEqual(like_ones(cut), (0, 3))

    def test_the_least_other_is_told(self):
        self.assertEqual(like_ones(TWO_LINES_AT_ONE_HEIGHT), (0, 2))
        self.assertEqual(like_ones(UNEVEN_AT_A_SPOT), (0, 1))

    def test_all_unlike(self):
        self.assertIsNone(like_ones(ONE))
        self.assertIsNone(like_ones(UNLIKE))
        self.assertIsNone(like_ones([(0, 0, GREATEST)]))

    def test_all_small_fillings(self):
        for cut in small_fillings():
            pairs = [(one, other) for one, other in itertools.product(range(len(cut)), repeat=2)
                     if one < other and cut[one][2] == cut[other][2]]
            self.assertEqual(like_ones(cut), min(pairs, default=None))

    def test_the_kind_of_the_answer(self):
        self.assertIs(type(like_ones(THREE)), tuple)

    def test_beyond_the_bounds(self):
        self.assertEqual(like_ones(row(26, GREATEST + 1)), (0, 1))

    def test_nothing_is_changed_and_the_answer_stays(self):
        for told in [UNLIKE, THREE]:
            cut = list(told)
            self.assertEqual(like_ones(cut), like_ones(cut))
            self.assertEqual(cut, told)


if __name__ == "__main__":
    unittest.main()
