"""Promises 6 and 7, and 2 where it is about lines and touchings."""

import copy
import unittest

from squareweb.lines import is_touching, lines, touching_of
from tests.examples import (CUTS, FOUR_AT_A_SPOT, GREATEST, ONE, OTHER_THINGS, THREE, TWO_BESIDE,
                            TWO_LINES_AT_ONE_HEIGHT, TWO_OVER, UNEVEN_AT_A_SPOT, UNLIKE, column, deep, list_of,
                            row, small_fillings, tuple_of)

ONE_TOUCHING = (((), (0,)), ((0,), ()))
THREE_TOUCHING = (((), (0, 1)), ((1,), (2,)), ((0, 2), ()))
UNLIKE_TOUCHING = (((), (0, 1)), ((1,), (2, 3)), ((0,), (4, 5)), ((5, 2), (6, 7)), ((7, 3), (8,)), ((4, 6, 8), ()))


def row_touching(many):
    numbers = tuple(range(many))
    return ((), numbers), (numbers, ())


def column_touching(many):
    middle = tuple(((at - 1,), (at,)) for at in range(1, many))
    return (((), (0,)),) + middle + (((many - 1,), ()),)


def lines_by_cells(cut):
    """Joins stretches of one cell's length, as a check that shares nothing with the program."""
    cells = {}
    for left, top, side in cut:
        for x in range(left, left + side):
            cells.setdefault(top, set()).add(x)
            cells.setdefault(top + side, set()).add(x)
    told = []
    for y in sorted(cells):
        for start in sorted(x for x in cells[y] if x - 1 not in cells[y]):
            end = start
            while end in cells[y]:
                end += 1
            told.append((y, start, end, on_line(cut, y, start, end, 1), on_line(cut, y, start, end, 0)))
    return told


def on_line(cut, y, start, end, by_bottom):
    found = [(left, number) for number, (left, top, side) in enumerate(cut)
             if top + by_bottom * side == y and start <= left and left + side <= end]
    return tuple(number for left, number in sorted(found))


def replaced(thing, at, part):
    return thing[:at] + (part,) + thing[at + 1:]


def replaced_numbers(touching, at, side, numbers):
    return replaced(touching, at, replaced(touching[at], side, numbers))


class LinesTest(unittest.TestCase):
    def test_one_square(self):
        self.assertEqual(lines(ONE), [(0, 0, 1, (), (0,)), (1, 0, 1, (0,), ())])
        self.assertEqual(lines(cut=[(0, 0, GREATEST)]),
                         [(0, 0, GREATEST, (), (0,)), (GREATEST, 0, GREATEST, (0,), ())])

    def test_beside_and_over(self):
        self.assertEqual(lines(TWO_BESIDE), [(0, 0, 10, (), (0, 1)), (5, 0, 10, (0, 1), ())])
        self.assertEqual(lines(TWO_OVER), [(0, 0, 5, (), (0,)), (5, 0, 5, (0,), (1,)), (10, 0, 5, (1,), ())])

    def test_a_line_that_does_not_begin_at_the_rim(self):
        self.assertEqual(lines(THREE), [(0, 0, 3, (), (0, 1)), (1, 2, 3, (1,), (2,)), (2, 0, 3, (0, 2), ())])

    def test_several_lines_at_one_height(self):
        self.assertEqual(lines(TWO_LINES_AT_ONE_HEIGHT),
                         [(0, 0, 4, (), (0, 1, 2)), (1, 0, 1, (0,), (3,)), (1, 3, 4, (2,), (4,)),
                          (2, 0, 4, (3, 1, 4), ())])

    def test_four_squares_at_one_spot(self):
        self.assertEqual(lines(FOUR_AT_A_SPOT),
                         [(0, 0, 2, (), (0, 1)), (1, 0, 2, (0, 1), (2, 3)), (2, 0, 2, (2, 3), ())])
        self.assertEqual(lines(UNEVEN_AT_A_SPOT),
                         [(0, 0, 4, (), (0, 1)), (2, 0, 4, (0, 1), (2, 3, 4)), (3, 0, 2, (2, 3), (5, 6)),
                          (4, 0, 4, (5, 6, 4), ())])

    def test_several_squares_above_and_below(self):
        # On the line at 22 the square 5 lies left of the square 2.
        self.assertEqual(lines(UNLIKE),
                         [(0, 0, 33, (), (0, 1)), (15, 18, 33, (1,), (2, 3)), (18, 0, 18, (0,), (4, 5)),
                          (22, 14, 25, (5, 2), (6, 7)), (23, 24, 33, (7, 3), (8,)), (32, 0, 33, (4, 6, 8), ())])

    def test_24_squares(self):
        numbers = tuple(range(24))
        self.assertEqual(lines(row(24)), [(0, 0, 24, (), numbers), (1, 0, 24, numbers, ())])
        self.assertEqual(len(lines(column(24))), 25)

    def test_all_small_fillings(self):
        for cut in small_fillings():
            self.assertEqual(lines(cut), lines_by_cells(cut))

    def test_beyond_the_bounds(self):
        numbers = tuple(range(26))
        side = GREATEST + 1
        self.assertEqual(lines(row(26, side)), [(0, 0, 26 * side, (), numbers), (side, 0, 26 * side, numbers, ())])

    def test_the_kinds_of_the_answer(self):
        told = lines(UNLIKE)
        self.assertIs(type(told), list)
        for line in told:
            self.assertEqual([type(part) for part in line], [int, int, int, tuple, tuple])
            self.assertIs(type(line), tuple)

    def test_the_told_list_is_the_askers_own(self):
        cut = list(UNLIKE)
        told = lines(cut)
        kept = list(told)
        self.assertIsNot(lines(cut), told)
        told.clear()
        self.assertEqual(lines(cut), kept)
        kept[0] = None
        self.assertEqual(lines(cut)[0], (0, 0, 33, (), (0, 1)))

    def test_nothing_is_changed_and_the_answer_stays(self):
        for cut in CUTS:
            before = list(cut)
            first = lines(cut)
            self.assertEqual(lines(cut), first)
            self.assertEqual(cut, before)

    def test_a_cut_that_is_changed_later(self):
        cut = list(TWO_BESIDE)
        told = lines(cut)
        cut.pop()
        self.assertEqual(told, [(0, 0, 10, (), (0, 1)), (5, 0, 10, (0, 1), ())])
        self.assertEqual(lines(cut), [(0, 0, 5, (), (0,)), (5, 0, 5, (0,), ())])


class TouchingOfTest(unittest.TestCase):
    def test_cuts(self):
        self.assertEqual(touching_of(ONE), ONE_TOUCHING)
        self.assertEqual(touching_of(THREE), THREE_TOUCHING)
        self.assertEqual(touching_of(cut=UNLIKE), UNLIKE_TOUCHING)
        self.assertEqual(touching_of(row(24)), row_touching(24))
        self.assertEqual(touching_of(column(24)), column_touching(24))
        self.assertEqual(touching_of(TWO_LINES_AT_ONE_HEIGHT),
                         (((), (0, 1, 2)), ((0,), (3,)), ((2,), (4,)), ((3, 1, 4), ())))
        self.assertEqual(touching_of(FOUR_AT_A_SPOT), (((), (0, 1)), ((0, 1), (2, 3)), ((2, 3), ())))

    def test_all_small_fillings(self):
        for cut in small_fillings():
            told = touching_of(cut)
            self.assertEqual(told, tuple((above, below) for y, left, right, above, below in lines_by_cells(cut)))
            self.assertIs(is_touching(told), True)

    def test_the_kinds_of_the_answer(self):
        told = touching_of(UNLIKE)
        self.assertIs(type(told), tuple)
        for line in told:
            self.assertEqual([type(line), type(line[0]), type(line[1])], [tuple, tuple, tuple])

    def test_beyond_the_bounds(self):
        self.assertEqual(touching_of(row(26, GREATEST + 1)), row_touching(26))

    def test_nothing_is_changed_and_the_answer_stays(self):
        for cut in CUTS:
            before = list(cut)
            first = touching_of(cut)
            self.assertEqual(touching_of(cut), first)
            self.assertEqual(cut, before)


class IsTouchingTest(unittest.TestCase):
    def is_told(self, thing, told):
        self.assertIs(is_touching(thing), told, thing)

    def test_touchings_of_cuts(self):
        for cut in CUTS:
            self.is_told(touching_of(cut), True)
        self.assertIs(is_touching(thing=ONE_TOUCHING), True)

    def test_touchings_told_otherwise_than_a_cuts(self):
        # Other numbers, another order of lines, and ones of no cut.
        self.is_told((((), (2, 0)), ((0,), (1,)), ((2, 1), ())), True)
        self.is_told((((), (1, 0)), ((0, 1), ())), True)
        self.is_told((((), (0, 1, 2)), ((2,), (4,)), ((0,), (3,)), ((3, 1, 4), ())), True)
        self.is_told((((), (0, 1)), ((1, 0), ())), True)
        self.is_told((((), (0, 1, 2)), ((0,), (3,)), ((1,), (4,)), ((4, 3, 2), ())), True)

    def test_24_squares_and_25(self):
        for make in [row_touching, column_touching]:
            self.is_told(make(1), True)
            self.is_told(make(23), True)
            self.is_told(make(24), True)
            self.is_told(make(25), False)
            self.is_told(make(26), False)

    def test_too_few_lines(self):
        self.is_told((), False)
        self.is_told((((), ()),), False)
        self.is_told((((), (0,)),), False)
        self.is_told((((0,), ()),), False)
        self.is_told((((0,), (0,)),), False)
        self.is_told((((), ()), ((), ())), False)

    def test_too_many_lines(self):
        empty = ((), ())
        self.is_told((((), (0,)),) + (empty,) * 24 + (((0,), ()),), False)

    def test_above_the_first_line(self):
        self.is_told((((0,), (0,)), ((0,), ())), False)
        self.is_told((((1,), (0, 1)), ((0,), ())), False)
        self.is_told((((0,), (0, 1)), ((1,), ())), False)
        self.is_told((((2,), (0, 1)), ((0, 1), (2,)), ((1,), ())), False)

    def test_below_the_last_line(self):
        self.is_told((((), (0,)), ((0,), (0,))), False)
        self.is_told((((), (0,)), ((0, 1), (1,))), False)
        self.is_told((((), (0,)), ((0,), (1,))), False)
        self.is_told((((), (0,)), ((0,), (1,)), ((1,), (2,))), False)

    def test_an_empty_one_elsewhere(self):
        # Each number stands once in all belows and once in all aboves, of a later line.
        self.is_told((((), (0, 1)), ((0, 1), ()), ((), ())), False)
        self.is_told((((), ()), ((), (0, 1)), ((0, 1), ())), False)
        self.is_told((((), (0, 1)), ((), ()), ((0, 1), ())), False)
        self.is_told((((), (0, 1)), ((0,), ()), ((1,), ())), False)
        self.is_told((((), (0,)), ((), (1,)), ((0, 1), ())), False)
        self.is_told((((), (0, 1)), ((0, 1), ()), ((), (2,)), ((2,), ())), False)

    def test_one_made_empty(self):
        for touching in [ONE_TOUCHING, THREE_TOUCHING, UNLIKE_TOUCHING]:
            for at, line in enumerate(touching):
                for side in range(2):
                    if line[side]:
                        self.is_told(replaced_numbers(touching, at, side, ()), False)

    def test_a_square_that_does_not_stand_on_a_later_line(self):
        # On the line below which it hangs.
        self.is_told((((), (0,)), ((1,), (1,)), ((0,), ())), False)
        self.is_told((((), (0,)), ((0, 1), (1, 2)), ((2,), ())), False)
        # On an earlier line.
        self.is_told((((), (0,)), ((1,), (2,)), ((2,), (1,)), ((0,), ())), False)
        self.is_told(tuple(reversed([(line[1], line[0]) for line in UNLIKE_TOUCHING])), True)

    def test_lines_exchanged(self):
        # Only the lines at 15 and 18 are such that neither has a square that stands on the other.
        for one in range(6):
            for other in range(one + 1, 6):
                exchanged = list(UNLIKE_TOUCHING)
                exchanged[one], exchanged[other] = exchanged[other], exchanged[one]
                self.is_told(tuple(exchanged), (one, other) == (1, 2))

    def test_above_and_below_exchanged(self):
        for touching in [ONE_TOUCHING, THREE_TOUCHING, UNLIKE_TOUCHING]:
            for at, (above, below) in enumerate(touching):
                self.is_told(replaced(touching, at, (below, above)), False)
        self.is_told(tuple((below, above) for above, below in THREE_TOUCHING), False)

    def test_numbers_exchanged_within_a_line(self):
        self.is_told(replaced(UNLIKE_TOUCHING, 5, ((8, 4, 6), ())), True)
        self.is_told(replaced(UNLIKE_TOUCHING, 3, ((2, 5), (7, 6))), True)

    def test_one_line_left_out_or_told_twice(self):
        for touching in [ONE_TOUCHING, THREE_TOUCHING, UNLIKE_TOUCHING]:
            for at in range(len(touching)):
                self.is_told(touching[:at] + touching[at + 1:], False)
                self.is_told(touching[:at + 1] + touching[at:], False)

    def test_one_number_left_out_told_twice_or_another(self):
        for touching in [ONE_TOUCHING, THREE_TOUCHING, UNLIKE_TOUCHING]:
            for at, line in enumerate(touching):
                for side in range(2):
                    numbers = line[side]
                    for place in range(len(numbers)):
                        left_out = numbers[:place] + numbers[place + 1:]
                        self.is_told(replaced_numbers(touching, at, side, left_out), False)
                        twice = numbers[:place + 1] + numbers[place:]
                        self.is_told(replaced_numbers(touching, at, side, twice), False)
                        for other in [-1, 9, 24, numbers[place] + 1, numbers[place] - 1, 10 ** 40 - 1]:
                            wrong = replaced(numbers, place, other)
                            self.is_told(replaced_numbers(touching, at, side, wrong), False)

    def test_numbers_that_do_not_go_from_nought(self):
        self.is_told((((), (1,)), ((1,), ())), False)
        self.is_told((((), (-1,)), ((-1,), ())), False)
        self.is_told((((), (0, 2)), ((0, 2), ())), False)
        self.is_told((((), (1, 2)), ((1, 2), ())), False)
        self.is_told((((), (-1, 0)), ((-1, 0), ())), False)
        self.is_told((((), (0, 0)), ((0, 0), ())), False)
        self.is_told((((), (0, 10 ** 39)), ((0, 10 ** 39), ())), False)

    def test_numbers_that_stand_below_or_above_alone(self):
        self.is_told((((), (0, 1)), ((0,), ())), False)
        self.is_told((((), (0,)), ((0, 1), ())), False)
        self.is_told((((), (0, 1)), ((0, 0), ())), False)
        self.is_told((((), (0, 0)), ((0, 1), ())), False)

    def test_a_tuple_made_a_list(self):
        for touching in [ONE_TOUCHING, THREE_TOUCHING, UNLIKE_TOUCHING]:
            self.is_told(list(touching), False)
            for at, line in enumerate(touching):
                self.is_told(replaced(touching, at, list(line)), False)
                for side in range(2):
                    self.is_told(replaced_numbers(touching, at, side, list(line[side])), False)

    def test_a_part_left_out_or_one_more(self):
        for touching in [ONE_TOUCHING, THREE_TOUCHING]:
            for at, line in enumerate(touching):
                for part in [(), line[:1], line[1:], line + ((),), line + (None,), ((),) + line, line + line]:
                    self.is_told(replaced(touching, at, part), False)

    def test_truths_in_place_of_numbers(self):
        self.is_told((((), (False,)), ((0,), ())), False)
        self.is_told((((), (0,)), ((False,), ())), False)
        self.is_told((((), (False,)), ((False,), ())), False)
        self.is_told((((), (0, True)), ((0, True), ())), False)
        self.is_told((((), (0, 1)), ((0, True), ())), False)

    def test_other_things_at_each_depth(self):
        others = [None, True, False, "", "0", "ab", [], [0], [[], []], deep(0, tuple_of, 5), deep(0, list_of, 5)]
        for other in others:
            for at, line in enumerate(THREE_TOUCHING):
                self.is_told(replaced(THREE_TOUCHING, at, other), False)
                for side in range(2):
                    self.is_told(replaced_numbers(THREE_TOUCHING, at, side, other), False)
                    for place in range(len(line[side])):
                        wrong = replaced(line[side], place, other)
                        self.is_told(replaced_numbers(THREE_TOUCHING, at, side, wrong), False)

    def test_a_number_in_place_of_a_part(self):
        for number in [0, 1, 2]:
            for at in range(3):
                self.is_told(replaced(THREE_TOUCHING, at, number), False)
                for side in range(2):
                    self.is_told(replaced_numbers(THREE_TOUCHING, at, side, number), False)

    def test_things_that_are_no_touchings(self):
        for thing in OTHER_THINGS + CUTS + [tuple(cut) for cut in CUTS] + [lines(cut) for cut in CUTS]:
            self.is_told(thing, False)
        self.is_told(tuple(lines(THREE)), False)

    def test_nothing_is_changed_and_the_answer_stays(self):
        for thing in OTHER_THINGS + [ONE_TOUCHING, THREE_TOUCHING, list(THREE_TOUCHING), UNLIKE_TOUCHING]:
            before = copy.deepcopy(thing)
            first = is_touching(thing)
            self.assertIs(is_touching(thing), first)
            self.assertEqual(repr(thing), repr(before))


if __name__ == "__main__":
    unittest.main()
