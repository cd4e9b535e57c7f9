"""Promise 12, and 2 and 3 where they are about cuts turned and scaled."""

import unittest

from squareweb.cuts import is_cut, sides
from squareweb.turns import least_form, lowest, mirrored, turned
from tests.examples import (CUTS, FOUR_AT_A_SPOT, GREATEST, ONE, THREE, TWO_BESIDE, TWO_LINES_AT_ONE_HEIGHT, TWO_OVER,
                            UNEVEN_AT_A_SPOT, UNLIKE, all_fillings, column, grown, painted, row, small_fillings,
                            squares_painted)

ALL = [lowest, turned, mirrored, least_form]
# 5 by 3, with all eight forms other ones.
FOUR = [(0, 0, 3), (3, 0, 2), (3, 2, 1), (4, 2, 1)]


def painted_turned(cut):
    return squares_painted([list(reversed(cells)) for cells in zip(*painted(cut))])


def painted_mirrored(cut):
    return squares_painted([cells[::-1] for cells in painted(cut)])


def eight_forms(cut):
    """All forms of a cut, by its cells."""
    forms = [cut, painted_mirrored(cut)]
    for _ in range(3):
        forms += [painted_turned(forms[-2]), painted_turned(forms[-1])]
    return forms


class LowestTest(unittest.TestCase):
    def test_by_hand(self):
        self.assertEqual(lowest(ONE), [(0, 0, 1)])
        self.assertEqual(lowest([(0, 0, 7)]), [(0, 0, 1)])
        self.assertEqual(lowest(TWO_BESIDE), [(0, 0, 1), (1, 0, 1)])
        self.assertEqual(lowest(cut=TWO_OVER), [(0, 0, 1), (0, 1, 1)])
        self.assertEqual(lowest([(0, 0, 12), (12, 0, 6), (12, 6, 6)]), THREE)
        self.assertEqual(lowest([(0, 0, GREATEST)]), ONE)

    def test_lowest_already(self):
        for cut in [ONE, THREE, FOUR_AT_A_SPOT, UNEVEN_AT_A_SPOT, TWO_LINES_AT_ONE_HEIGHT, UNLIKE, FOUR]:
            self.assertEqual(lowest(cut), cut)

    def test_so_many_times_as_great(self):
        for cut in [ONE, THREE, UNEVEN_AT_A_SPOT, UNLIKE, FOUR, row(24), column(24)]:
            for times in [2, 3, 4, 6, 35, 10 ** 7]:
                self.assertEqual(lowest(grown(cut, times)), cut)

    def test_no_number_divides_all(self):
        for cut in small_fillings():
            numbers = [number for square in lowest(cut) for number in square]
            for divisor in range(2, 5):
                self.assertTrue(any(number % divisor for number in numbers), cut)

    def test_beyond_the_bounds(self):
        self.assertEqual(lowest(grown(UNLIKE, 10 ** 30)), UNLIKE)
        self.assertEqual(lowest(row(26, 2)), row(26))


class TurnedTest(unittest.TestCase):
    def test_by_hand(self):
        self.assertEqual(turned(ONE), ONE)
        self.assertEqual(turned(TWO_BESIDE), TWO_OVER)
        self.assertEqual(turned(TWO_OVER), TWO_BESIDE)
        self.assertEqual(turned(THREE), [(0, 0, 2), (0, 2, 1), (1, 2, 1)])
        self.assertEqual(turned(FOUR), [(0, 0, 3), (0, 3, 1), (1, 3, 2), (0, 4, 1)])
        self.assertEqual(turned(FOUR_AT_A_SPOT), FOUR_AT_A_SPOT)

    def test_by_several_quarters(self):
        self.assertEqual(turned(FOUR, 0), FOUR)
        self.assertEqual(turned(FOUR, 1), [(0, 0, 3), (0, 3, 1), (1, 3, 2), (0, 4, 1)])
        self.assertEqual(turned(FOUR, 2), [(0, 0, 1), (1, 0, 1), (2, 0, 3), (0, 1, 2)])
        self.assertEqual(turned(FOUR, 3), [(0, 0, 2), (2, 0, 1), (2, 1, 1), (0, 2, 3)])
        self.assertEqual(turned(cut=THREE, quarters=2), [(0, 0, 1), (1, 0, 2), (0, 1, 1)])
        self.assertEqual(turned(THREE, quarters=3), [(0, 0, 1), (1, 0, 1), (0, 1, 2)])

    def test_what_was_left_lies_above_and_what_was_below_lies_left(self):
        # The square of 18 lies left and above, that of 14 left and below, that of 9 right and below.
        told = turned(UNLIKE)
        self.assertEqual([square for square in told if square[2] in (18, 14, 9)],
                         [(0, 0, 14), (14, 0, 18), (0, 24, 9)])
        self.assertEqual(sides(told), (32, 33))

    def test_by_cells(self):
        for cut in small_fillings() + [FOUR, UNLIKE, row(24), column(24), TWO_BESIDE]:
            form = cut
            for quarters in range(4):
                self.assertEqual(turned(cut, quarters), form)
                form = painted_turned(form)

    def test_by_a_quarter_four_times(self):
        for cut in CUTS + small_fillings():
            told = cut
            for _ in range(4):
                told = turned(told)
            self.assertEqual(told, cut)

    def test_several_quarters_are_so_many_times_one(self):
        for cut in CUTS:
            self.assertEqual(turned(cut, 2), turned(turned(cut)))
            self.assertEqual(turned(cut, 3), turned(turned(turned(cut))))
            self.assertEqual(turned(cut, 1), turned(cut))

    def test_it_is_not_made_lowest(self):
        self.assertEqual(turned([(0, 0, 4), (4, 0, 2), (4, 2, 2)]), [(0, 0, 4), (0, 4, 2), (2, 4, 2)])
        self.assertEqual(turned(row(2, GREATEST)), column(2, GREATEST))

    def test_beyond_the_bounds_without_an_error(self):
        self.assertEqual(turned(FOUR, 4), FOUR)
        self.assertEqual(turned(FOUR, 5), turned(FOUR))
        self.assertEqual(turned(row(26)), column(26))


class MirroredTest(unittest.TestCase):
    def test_by_hand(self):
        self.assertEqual(mirrored(ONE), ONE)
        self.assertEqual(mirrored(TWO_BESIDE), TWO_BESIDE)
        self.assertEqual(mirrored(TWO_OVER), TWO_OVER)
        self.assertEqual(mirrored(THREE), [(0, 0, 1), (1, 0, 2), (0, 1, 1)])
        self.assertEqual(mirrored(cut=FOUR), [(0, 0, 2), (2, 0, 3), (0, 2, 1), (1, 2, 1)])
        self.assertEqual(mirrored(UNLIKE), [(0, 0, 15), (15, 0, 18), (0, 15, 8), (8, 15, 7), (15, 18, 4), (19, 18, 14),
                                            (8, 22, 1), (9, 22, 10), (0, 23, 9)])

    def test_by_cells(self):
        for cut in small_fillings() + [FOUR, UNLIKE, row(24), column(24)]:
            self.assertEqual(mirrored(cut), painted_mirrored(cut))

    def test_twice(self):
        for cut in CUTS + small_fillings():
            self.assertEqual(mirrored(mirrored(cut)), cut)

    def test_it_is_not_made_lowest(self):
        self.assertEqual(mirrored([(0, 0, 4), (4, 0, 2), (4, 2, 2)]), [(0, 0, 2), (2, 0, 4), (0, 2, 2)])

    def test_mirrored_between_turns(self):
        for cut in CUTS + [FOUR]:
            self.assertEqual(turned(mirrored(turned(cut))), mirrored(cut))


class LeastFormTest(unittest.TestCase):
    def test_by_hand(self):
        self.assertEqual(least_form(ONE), ONE)
        self.assertEqual(least_form([(0, 0, 9)]), ONE)
        self.assertEqual(least_form(TWO_BESIDE), [(0, 0, 1), (0, 1, 1)])
        self.assertEqual(least_form(TWO_OVER), [(0, 0, 1), (0, 1, 1)])
        self.assertEqual(least_form(cut=THREE), [(0, 0, 1), (1, 0, 1), (0, 1, 2)])
        self.assertEqual(least_form(row(24)), column(24))

    def test_by_trying_all_eight(self):
        fillings = small_fillings() + all_fillings(5, 3, 6) + all_fillings(5, 4, 6)
        for cut in fillings + [FOUR, UNLIKE]:
            self.assertEqual(least_form(grown(cut, 3)), min(lowest(form) for form in eight_forms(cut)))

    def test_the_same_of_all_eight(self):
        for cut in [FOUR, UNLIKE, TWO_LINES_AT_ONE_HEIGHT]:
            forms = eight_forms(cut)
            self.assertEqual({str(least_form(form)) for form in forms}, {str(least_form(cut))})
        self.assertEqual(len({str(form) for form in eight_forms(UNLIKE)}), 8)
        self.assertEqual(len({str(form) for form in eight_forms(FOUR)}), 8)

    def test_each_of_the_eight_may_be_the_least(self):
        # So all eight are asked: the least one itself comes of each form.
        least = least_form(UNLIKE)
        for form in eight_forms(least):
            self.assertEqual(least_form(form), least)


class AllTest(unittest.TestCase):
    def test_what_is_told_is_a_cut(self):
        for ask in ALL:
            for cut in small_fillings() + [UNLIKE, FOUR, row(24), column(24)]:
                told = ask(cut)
                self.assertIs(is_cut(told), True)
                self.assertEqual(len(told), len(cut))

    def test_the_told_list_is_a_new_one(self):
        asks = ALL + [lambda cut: turned(cut, 0), lambda cut: turned(cut, 2), lambda cut: turned(cut, 3)]
        for ask in asks:
            for cut in [list(ONE), list(FOUR), list(UNLIKE)]:
                before = list(cut)
                told = ask(cut)
                kept = list(told)
                self.assertIsNot(told, cut)
                self.assertIsNot(ask(cut), told)
                told.append(None)
                self.assertEqual(cut, before)
                self.assertEqual(ask(cut), kept)
                cut.clear()
                self.assertEqual(told, kept + [None])

    def test_nothing_is_changed_and_the_answer_stays(self):
        for ask in ALL:
            for cut in CUTS:
                before = list(cut)
                first = ask(cut)
                self.assertEqual(ask(cut), first)
                self.assertEqual(cut, before)


if __name__ == "__main__":
    unittest.main()
