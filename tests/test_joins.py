"""Promises 13 and 14, and 2 and 3 where they are about cuts put together and parted."""

import copy
import unittest

from squareweb.cuts import is_cut, sides
from squareweb.errors import NoCut, NoSquare, SquareError, TooMany
from squareweb.joins import beside, over, parted, put_within
from squareweb.turns import lowest, turned
from tests.examples import (CUTS, FOUR_AT_A_SPOT, GREATEST, ONE, THREE, TWO_BESIDE, TWO_LINES_AT_ONE_HEIGHT, TWO_OVER,
                            UNEVEN_AT_A_SPOT, UNLIKE, all_fillings, column, grown, painted, row, small_fillings,
                            squares_painted)

# 5 by 5: four rectangles around a square in the middle, so that no line goes all the way.
WHIRL = [(0, 0, 1), (1, 0, 2), (3, 0, 1), (4, 0, 1), (0, 1, 1), (3, 1, 2), (0, 2, 2), (2, 2, 1), (2, 3, 2), (4, 3, 1),
         (0, 4, 1), (1, 4, 1), (4, 4, 1)]
# 3 by 3.
SIX = [(0, 0, 2), (2, 0, 1), (2, 1, 1), (0, 2, 1), (1, 2, 1), (2, 2, 1)]
SMALL = [ONE, [(0, 0, 6)], TWO_BESIDE, TWO_OVER, THREE, turned(THREE), FOUR_AT_A_SPOT, TWO_LINES_AT_ONE_HEIGHT,
         UNEVEN_AT_A_SPOT, UNLIKE, row(3, 2), column(3), turned(UNLIKE), SIX]


def parts_with_upright_lines(cut):
    """The parts of a cut by all upright lines, or the cut alone, lowest."""
    told = parted(cut)
    return told[1] if told[0] == "beside" else [lowest(cut)]


def parts_with_flat_lines(cut):
    return [turned(part) for part in parts_with_upright_lines(turned(cut, 3))]


def has_upright_line(cut):
    return any(all(x <= left or left + side <= x for left, top, side in cut) for x in range(1, sides(cut)[0]))


def ends_of_columns(rows):
    """The x where each cell is of another square than that left of it."""
    return [x for x in range(1, len(rows[0])) if all(cells[x - 1] != cells[x] for cells in rows)]


def parts_by_cells(cut):
    """What upright lines part, by the cells, each lowest."""
    rows = painted(cut)
    marks = [0] + ends_of_columns(rows) + [len(rows[0])]
    return [lowest(squares_painted([cells[start:end] for cells in rows])) for start, end in zip(marks, marks[1:])]


class TooManyTest(unittest.TestCase):
    def refuses_too_many(self, many, ask, *told):
        before = copy.deepcopy(told)
        with self.assertRaises(TooMany) as caught:
            ask(*told)
        self.assertEqual(caught.exception.many, many)
        self.assertIsInstance(caught.exception, SquareError)
        self.assertEqual(told, before)

    def test_beside(self):
        self.assertEqual(beside(row(23), ONE), row(24))
        self.assertEqual(beside(ONE, row(23)), row(24))
        self.assertEqual(beside(row(12), row(12)), row(24))
        self.refuses_too_many(25, beside, row(24), ONE)
        self.refuses_too_many(25, beside, ONE, row(24))
        self.refuses_too_many(25, beside, row(12), column(13))
        self.refuses_too_many(48, beside, column(24), row(24))

    def test_over(self):
        self.assertEqual(over(column(23), ONE), column(24))
        self.assertEqual(over(ONE, column(23)), column(24))
        self.assertEqual(over(column(12), column(12)), column(24))
        self.refuses_too_many(25, over, column(24), ONE)
        self.refuses_too_many(25, over, ONE, column(24))
        self.refuses_too_many(25, over, row(12), column(13))
        self.refuses_too_many(48, over, column(24), row(24))

    def test_put_within(self):
        self.assertEqual(len(put_within(row(21), 20, FOUR_AT_A_SPOT)), 24)
        self.assertEqual(len(put_within(row(24), 23, ONE)), 24)
        self.assertEqual(len(put_within(row(12), 0, WHIRL)), 24)
        self.refuses_too_many(25, put_within, row(22), 0, FOUR_AT_A_SPOT)
        self.refuses_too_many(25, put_within, row(13), 12, WHIRL)
        self.refuses_too_many(27, put_within, row(24), 0, FOUR_AT_A_SPOT)
        self.refuses_too_many(36, put_within, row(24), 23, WHIRL)


class BesideTest(unittest.TestCase):
    def test_by_hand(self):
        self.assertEqual(beside(ONE, ONE), [(0, 0, 1), (1, 0, 1)])
        self.assertEqual(beside(one=THREE, other=ONE), [(0, 0, 2), (2, 0, 1), (3, 0, 2), (2, 1, 1)])
        self.assertEqual(beside(other=THREE, one=ONE), [(0, 0, 2), (2, 0, 2), (4, 0, 1), (4, 1, 1)])

    def test_heights_made_the_same(self):
        # 2 and 3 come to 6.
        self.assertEqual(beside(THREE, column(3)),
                         [(0, 0, 6), (6, 0, 3), (9, 0, 2), (9, 2, 2), (6, 3, 3), (9, 4, 2)])
        self.assertEqual(beside(column(3), THREE),
                         [(0, 0, 2), (2, 0, 6), (8, 0, 3), (0, 2, 2), (8, 3, 3), (0, 4, 2)])
        # 2 and 4 come to 4, not to 8.
        self.assertEqual(beside(column(2), column(4)),
                         [(0, 0, 2), (2, 0, 1), (2, 1, 1), (0, 2, 2), (2, 2, 1), (2, 3, 1)])

    def test_the_whole_is_lowest(self):
        self.assertEqual(beside([(0, 0, 6)], [(0, 0, 6)]), [(0, 0, 1), (1, 0, 1)])
        self.assertEqual(beside([(0, 0, 6)], [(0, 0, 4)]), [(0, 0, 1), (1, 0, 1)])
        self.assertEqual(beside([(0, 0, GREATEST)], [(0, 0, GREATEST - 1)]), [(0, 0, 1), (1, 0, 1)])
        self.assertEqual(beside(TWO_OVER, THREE), [(0, 0, 1), (1, 0, 2), (3, 0, 1), (0, 1, 1), (3, 1, 1)])
        self.assertEqual(beside(grown(THREE, 10 ** 8), grown(column(3), 10 ** 7)), beside(THREE, column(3)))

    def test_the_same_cut_twice(self):
        cut = list(THREE)
        self.assertEqual(beside(cut, cut), [(0, 0, 2), (2, 0, 1), (3, 0, 2), (5, 0, 1), (2, 1, 1), (5, 1, 1)])
        self.assertEqual(cut, THREE)


class OverTest(unittest.TestCase):
    def test_by_hand(self):
        self.assertEqual(over(ONE, ONE), [(0, 0, 1), (0, 1, 1)])
        self.assertEqual(over(one=TWO_BESIDE, other=ONE), [(0, 0, 1), (1, 0, 1), (0, 1, 2)])
        self.assertEqual(over(other=TWO_BESIDE, one=ONE), [(0, 0, 2), (0, 2, 1), (1, 2, 1)])

    def test_widths_made_the_same(self):
        # 3 and 2 come to 6.
        self.assertEqual(over(THREE, TWO_BESIDE), [(0, 0, 4), (4, 0, 2), (4, 2, 2), (0, 4, 3), (3, 4, 3)])
        self.assertEqual(over(TWO_BESIDE, THREE), [(0, 0, 3), (3, 0, 3), (0, 3, 4), (4, 3, 2), (4, 5, 2)])
        self.assertEqual(over(row(2), row(4)), [(0, 0, 2), (2, 0, 2), (0, 2, 1), (1, 2, 1), (2, 2, 1), (3, 2, 1)])

    def test_the_whole_is_lowest(self):
        self.assertEqual(over([(0, 0, 6)], [(0, 0, 6)]), [(0, 0, 1), (0, 1, 1)])
        self.assertEqual(over([(0, 0, 6)], [(0, 0, 4)]), [(0, 0, 1), (0, 1, 1)])
        self.assertEqual(over([(0, 0, GREATEST - 1)], [(0, 0, GREATEST)]), [(0, 0, 1), (0, 1, 1)])
        self.assertEqual(over(grown(THREE, 10 ** 8), grown(row(3), 10 ** 7)), over(THREE, row(3)))

    def test_the_same_cut_twice(self):
        cut = list(THREE)
        self.assertEqual(over(cut, cut), [(0, 0, 2), (2, 0, 1), (2, 1, 1), (0, 2, 2), (2, 2, 1), (2, 3, 1)])
        self.assertEqual(cut, THREE)


class PutTogetherTest(unittest.TestCase):
    def test_what_is_told_is_a_lowest_cut(self):
        for one in SMALL:
            for other in SMALL:
                for told in [beside(one, other), over(one, other)]:
                    self.assertIs(is_cut(told), True)
                    self.assertEqual(lowest(told), told)
                    self.assertEqual(len(told), len(one) + len(other))

    def test_the_parts_lie_where_they_should(self):
        for one in SMALL:
            for other in SMALL:
                told = beside(one, other)
                width, height = sides(told)
                own_width, own_height = sides(one)
                mark = own_width * height // own_height
                left = [square for square in told if square[0] < mark]
                right = [(left - mark, top, side) for left, top, side in told if left >= mark]
                self.assertEqual((lowest(left), lowest(right)), (lowest(one), lowest(other)))
                self.assertEqual((sides(left)[1], sides(right)[1]), (height, height))

    def test_over_is_beside_turned(self):
        # What was left lies above.
        for one in SMALL:
            for other in SMALL:
                self.assertEqual(over(turned(one), turned(other)), turned(beside(one, other)))

    def test_they_are_parted_again(self):
        for one in SMALL:
            for other in SMALL:
                parts = parts_with_upright_lines(one) + parts_with_upright_lines(other)
                self.assertEqual(parted(beside(one, other)), ("beside", parts))
                stack = over(one, other)
                self.assertEqual(parts_with_flat_lines(stack),
                                 parts_with_flat_lines(one) + parts_with_flat_lines(other))
                if not has_upright_line(stack):
                    self.assertEqual(parted(stack),
                                     ("over", parts_with_flat_lines(one) + parts_with_flat_lines(other)))

    def test_what_was_told_is_handed_in_again(self):
        # By turns beside and over: the sides are those of Fibonacci.
        told = ONE
        for _ in range(11):
            told = beside(over(told, ONE), ONE)
            self.assertIs(is_cut(told), True)
        self.assertEqual(len(told), 23)
        self.assertEqual(sides(told), (46368, 28657))
        self.assertEqual(sides(over(told, ONE)), (46368, 75025))
        self.assertEqual(parted(over(told, ONE)), ("over", [told, ONE]))


class PutWithinTest(unittest.TestCase):
    def test_by_hand(self):
        self.assertEqual(put_within(ONE, 0, ONE), ONE)
        self.assertEqual(put_within(ONE, 0, FOUR_AT_A_SPOT), FOUR_AT_A_SPOT)
        self.assertEqual(put_within(cut=THREE, number=0, other=FOUR_AT_A_SPOT),
                         [(0, 0, 1), (1, 0, 1), (2, 0, 1), (0, 1, 1), (1, 1, 1), (2, 1, 1)])
        self.assertEqual(put_within(THREE, 1, FOUR_AT_A_SPOT),
                         [(0, 0, 4), (4, 0, 1), (5, 0, 1), (4, 1, 1), (5, 1, 1), (4, 2, 2)])
        self.assertEqual(put_within(THREE, 2, FOUR_AT_A_SPOT),
                         [(0, 0, 4), (4, 0, 2), (4, 2, 1), (5, 2, 1), (4, 3, 1), (5, 3, 1)])

    def test_all_is_made_greater_as_needed(self):
        # A square of 2 and a cut of 3 come to 6.
        self.assertEqual(put_within(THREE, 0, SIX),
                         [(0, 0, 4), (4, 0, 2), (6, 0, 3), (4, 2, 2), (6, 3, 3), (0, 4, 2), (2, 4, 2), (4, 4, 2)])
        self.assertEqual(put_within(SIX, 0, SIX)[:3], [(0, 0, 4), (4, 0, 2), (6, 0, 3)])

    def test_the_whole_is_lowest(self):
        for times in [1, 2, 3, 10 ** 7]:
            for other_times in [1, 2, 3, 10 ** 7]:
                self.assertEqual(put_within(grown(THREE, times), 0, grown(SIX, other_times)),
                                 put_within(THREE, 0, SIX))
        self.assertEqual(put_within([(0, 0, 10)], 0, [(0, 0, 6)]), ONE)
        self.assertEqual(put_within(TWO_BESIDE, 1, [(0, 0, 3)]), row(2))

    def test_one_square_put_within_is_the_cut_in_lowest_numbers(self):
        for cut in CUTS:
            for number in range(len(cut)):
                self.assertEqual(put_within(cut, number, [(0, 0, 7)]), lowest(cut))

    def test_each_square_of_a_cut(self):
        for cut in [THREE, SIX, UNLIKE, TWO_LINES_AT_ONE_HEIGHT, row(3, 2)]:
            for other in [FOUR_AT_A_SPOT, SIX, UNEVEN_AT_A_SPOT]:
                for number in range(len(cut)):
                    self.is_within(cut, number, other)

    def is_within(self, cut, number, other):
        told = put_within(cut, number, other)
        self.assertIs(is_cut(told), True)
        self.assertEqual(lowest(told), told)
        self.assertEqual(len(told), len(cut) - 1 + len(other))
        # Brought to one measure: what was told by the cut's width, the cut by the told one's.
        width, own_width = sides(told)[0], sides(cut)[0]
        left, top, side = [part * width for part in cut[number]]
        inside = [square for square in told if left <= square[0] * own_width < left + side
                  and top <= square[1] * own_width < top + side]
        outside = [square for square in told if square not in inside]
        moved = [(x * own_width - left, y * own_width - top, size * own_width) for x, y, size in inside]
        self.assertEqual(lowest(moved), lowest(other))
        self.assertEqual([tuple(part * own_width for part in square) for square in outside],
                         [tuple(part * width for part in cut[at]) for at in range(len(cut)) if at != number])

    def test_a_number_that_is_none(self):
        for cut in [ONE, THREE, row(24)]:
            for number in [-1, -2, -len(cut), len(cut), len(cut) + 1, 25, 10 ** 40 - 1, -(10 ** 40 - 1), 10 ** 5000]:
                with self.assertRaises(NoSquare) as caught:
                    put_within(cut, number, ONE)
                self.assertEqual(caught.exception.number, number)
                self.assertIsInstance(caught.exception, SquareError)
        for number in range(3):
            self.assertEqual(put_within(THREE, number, ONE), THREE)

    def test_a_cut_of_unequal_sides(self):
        for other in [TWO_BESIDE, TWO_OVER, THREE, turned(THREE), UNLIKE, row(24), column(24)]:
            for cut in [ONE, THREE, FOUR_AT_A_SPOT]:
                with self.assertRaises(NoCut):
                    put_within(cut, 0, other)

    def test_which_refusal_goes_first(self):
        # All three are due.
        with self.assertRaises(NoSquare):
            put_within(row(24), 24, row(2))
        with self.assertRaises(NoSquare):
            put_within(row(24), -1, row(2))
        # Two are due.
        with self.assertRaises(NoSquare):
            put_within(row(3), 3, row(2))
        with self.assertRaises(NoSquare):
            put_within(row(24), 24, FOUR_AT_A_SPOT)
        with self.assertRaises(NoCut):
            put_within(row(24), 23, row(2))
        with self.assertRaises(NoCut):
            put_within(row(24), 0, column(24))

    def test_what_is_refused_changes_nothing(self):
        for cut, number, other in [(row(24), 24, row(2)), (row(24), 0, row(2)), (row(24), 0, list(FOUR_AT_A_SPOT))]:
            before = (list(cut), list(other))
            with self.assertRaises(SquareError):
                put_within(cut, number, other)
            self.assertEqual((cut, other), before)

    def test_a_cut_put_into_itself(self):
        cut = list(FOUR_AT_A_SPOT)
        self.assertEqual(put_within(cut, 3, cut),
                         [(0, 0, 2), (2, 0, 2), (0, 2, 2), (2, 2, 1), (3, 2, 1), (2, 3, 1), (3, 3, 1)])
        self.assertEqual(cut, FOUR_AT_A_SPOT)


class PartedTest(unittest.TestCase):
    def test_beside(self):
        self.assertEqual(parted(TWO_BESIDE), ("beside", [ONE, ONE]))
        self.assertEqual(parted(cut=THREE), ("beside", [ONE, column(2)]))
        self.assertEqual(parted(row(24)), ("beside", [ONE] * 24))
        self.assertEqual(parted(TWO_LINES_AT_ONE_HEIGHT), ("beside", [column(2), ONE, column(2)]))
        self.assertEqual(parted([(0, 0, 1), (1, 0, 2), (0, 1, 1)]), ("beside", [column(2), ONE]))

    def test_over(self):
        self.assertEqual(parted(TWO_OVER), ("over", [ONE, ONE]))
        self.assertEqual(parted([(0, 0, 2), (0, 2, 1), (1, 2, 1)]), ("over", [ONE, row(2)]))
        self.assertEqual(parted([(0, 0, 1), (1, 0, 1), (0, 1, 2)]), ("over", [row(2), ONE]))
        self.assertEqual(parted(column(24)), ("over", [ONE] * 24))
        self.assertEqual(parted([(0, 0, 6), (0, 6, 3), (3, 6, 3), (0, 9, 2), (2, 9, 2), (4, 9, 2)]),
                         ("over", [ONE, row(2), row(3)]))

    def test_one(self):
        self.assertEqual(parted(ONE), ("one",))
        self.assertEqual(parted([(0, 0, GREATEST)]), ("one",))
        self.assertEqual(parted(UNLIKE), ("one",))
        self.assertEqual(parted(turned(UNLIKE)), ("one",))
        self.assertEqual(parted(WHIRL), ("one",))

    def test_beside_goes_ahead_of_over(self):
        self.assertEqual(parted(SIX), ("beside", [[(0, 0, 2), (0, 2, 1), (1, 2, 1)], column(3)]))
        self.assertEqual(parted(FOUR_AT_A_SPOT), ("beside", [column(2), column(2)]))
        self.assertEqual(parted(UNEVEN_AT_A_SPOT),
                         ("beside", [[(0, 0, 2), (0, 2, 1), (1, 2, 1), (0, 3, 1), (1, 3, 1)], column(2)]))

    def test_each_part_is_lowest(self):
        self.assertEqual(parted(grown(THREE, 6)), ("beside", [ONE, column(2)]))
        wide = [(0, 0, 6), (6, 0, 3), (9, 0, 2), (9, 2, 2), (6, 3, 3), (9, 4, 2)]
        self.assertEqual(parted(wide), ("beside", [ONE, column(2), column(3)]))

    def test_by_cells(self):
        for cut in small_fillings() + all_fillings(5, 4, 8) + all_fillings(6, 5, 7) + [UNLIKE, WHIRL]:
            told = parted(cut)
            upright, flat = parts_by_cells(cut), [turned(part) for part in parts_by_cells(turned(cut, 3))]
            if len(upright) > 1:
                self.assertEqual(told, ("beside", upright))
            elif len(flat) > 1:
                self.assertEqual(told, ("over", flat))
            else:
                self.assertEqual(told, ("one",))

    def test_the_parts_put_together_again(self):
        for cut in small_fillings() + SMALL:
            told = parted(cut)
            if told[0] == "one":
                continue
            together = told[1][0]
            for part in told[1][1:]:
                together = beside(together, part) if told[0] == "beside" else over(together, part)
            self.assertEqual(together, lowest(cut))

    def test_the_kinds_of_the_answer(self):
        for cut in SMALL:
            told = parted(cut)
            self.assertIs(type(told), tuple)
            self.assertIs(type(told[0]), str)
            for parts in told[1:]:
                self.assertIs(type(parts), list)
                self.assertGreater(len(parts), 1)
                for part in parts:
                    self.assertIs(is_cut(part), True)

    def test_beyond_the_bounds(self):
        self.assertEqual(parted(row(26, GREATEST + 1)), ("beside", [ONE] * 26))


class NewListsTest(unittest.TestCase):
    def test_each_told_list_is_a_new_one(self):
        one, other, square = list(ONE), list(THREE), list(FOUR_AT_A_SPOT)
        asks = [lambda: beside(one, other), lambda: over(one, other), lambda: put_within(other, 0, square),
                lambda: put_within(one, 0, one), lambda: parted(other)[1], lambda: parted(other)[1][0],
                lambda: parted(turned(other))[1], lambda: parted(turned(other))[1][1]]
        for ask in asks:
            told = ask()
            kept = list(told)
            self.assertIsNot(ask(), told)
            told.clear()
            self.assertEqual(ask(), kept)
            self.assertEqual((one, other, square), (ONE, THREE, FOUR_AT_A_SPOT))

    def test_cuts_that_are_changed_later(self):
        one, other = list(ONE), list(THREE)
        told = [beside(one, other), over(one, other), put_within(one, 0, one), parted(other)]
        one.clear()
        other.clear()
        self.assertEqual(told, [beside(ONE, THREE), over(ONE, THREE), put_within(ONE, 0, ONE), parted(THREE)])

    def test_nothing_is_changed_and_the_answer_stays(self):
        for cut in CUTS:
            before = list(cut)
            first = parted(cut)
            self.assertEqual(parted(cut), first)
            if len(cut) < 24:
                self.assertEqual((beside(cut, ONE), over(ONE, cut)), (beside(cut, ONE), over(ONE, cut)))
            self.assertEqual(put_within(cut, 0, ONE), put_within(cut, 0, ONE))
            self.assertEqual(cut, before)


if __name__ == "__main__":
    unittest.main()
