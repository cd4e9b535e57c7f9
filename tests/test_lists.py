"""Promises 15 and 16, and 2 and 3 where they are about pushes and all cuts."""

import copy
import unittest

from squareweb.built import built
from squareweb.cuts import is_cut
from squareweb.errors import SquareError, TooMany
from squareweb.lines import is_touching, touching_of
from squareweb.lists import all_cuts, place_of, push_beside, push_over
from squareweb.turns import lowest, mirrored, turned
from tests.examples import (CUTS, FOUR_AT_A_SPOT, GREATEST, ONE, THREE, UNLIKE, canonical, column,
                            few_square_cuts, grown, row)

SINGLE = (((), (0,)), ((0,), ()))
BEYOND = [0, -1, -6, 7, 8, 24, 25, 10 ** 9, 10 ** 40 - 1, -(10 ** 40 - 1), 10 ** 5000]
# How many lowest cuts there are of 1 to 6 squares, and touchings that come by pushes.
HOW_MANY = [1, 2, 6, 21, 86, 374]
HOW_MANY_PUSHED = [1, 2, 6, 22, 92, 422]


def rim_of(touching):
    """The numbers of the squares at the left rim, from the top, by walking down."""
    stood_on = {number: at for at, (above, below) in enumerate(touching) for number in above}
    found = []
    at = 0
    while touching[at][1]:
        found.append(touching[at][1][0])
        at = stood_on[found[-1]]
    return found


def pushes_of(touching):
    over = [push_over(touching, many + 1) for many in range(len(touching[0][1]))]
    return over + [push_beside(touching, many + 1) for many in range(len(rim_of(touching)))]


def pushed_from_one(squares):
    found = [SINGLE]
    for _ in range(squares - 1):
        found = [pushed for touching in found for pushed in pushes_of(touching)]
    return found


def order_of(cut):
    width = max(left + side for left, top, side in cut)
    height = max(top + side for left, top, side in cut)
    return sorted([width, height]), cut


class PushOverTest(unittest.TestCase):
    def test_one_square(self):
        self.assertEqual(push_over(SINGLE, 1), (((), (1,)), ((1,), (0,)), ((0,), ())))
        self.assertEqual(push_over(many=1, touching=SINGLE), push_over(SINGLE, 1))

    def test_by_hand(self):
        beside = (((), (0, 1, 2)), ((0, 1, 2), ()))
        self.assertEqual(push_over(beside, 1), (((), (3, 1, 2)), ((3,), (0,)), ((0, 1, 2), ())))
        self.assertEqual(push_over(beside, 2), (((), (3, 2)), ((3,), (0, 1)), ((0, 1, 2), ())))
        self.assertEqual(push_over(beside, 3), (((), (3,)), ((3,), (0, 1, 2)), ((0, 1, 2), ())))

    def test_the_other_lines_stay(self):
        touching = touching_of(THREE)
        self.assertEqual(push_over(touching, 1), (((), (3, 1)), ((3,), (0,)), ((1,), (2,)), ((0, 2), ())))
        self.assertEqual(push_over(touching, 2), (((), (3,)), ((3,), (0, 1)), ((1,), (2,)), ((0, 2), ())))

    def test_the_order_below_the_first_line_counts_not_the_numbers(self):
        self.assertEqual(push_over((((), (2, 0, 1)), ((2, 0, 1), ())), 2),
                         (((), (3, 1)), ((3,), (2, 0)), ((2, 0, 1), ())))

    def test_23_and_24_squares(self):
        told = push_over(touching_of(row(23)), 23)
        self.assertEqual(told[0], ((), (23,)))
        self.assertTrue(is_touching(told))
        self.assertEqual(len(push_over(touching_of(row(24)), 1)), 3)


class PushBesideTest(unittest.TestCase):
    def test_one_square(self):
        self.assertEqual(push_beside(SINGLE, 1), (((), (1, 0)), ((1, 0), ())))
        self.assertEqual(push_beside(many=1, touching=SINGLE), push_beside(SINGLE, 1))

    def test_by_hand(self):
        over = (((), (0,)), ((0,), (1,)), ((1,), (2,)), ((2,), ()))
        self.assertEqual(push_beside(over, 1), (((), (3, 0)), ((3, 0), (1,)), ((1,), (2,)), ((2,), ())))
        self.assertEqual(push_beside(over, 2), (((), (3, 0)), ((0,), (1,)), ((3, 1), (2,)), ((2,), ())))
        self.assertEqual(push_beside(over, 3), (((), (3, 0)), ((0,), (1,)), ((1,), (2,)), ((3, 2), ())))

    def test_only_squares_at_the_rim_count(self):
        # Only the first square lies at the rim, and it stands on the last line.
        self.assertEqual(push_beside(touching_of(THREE), 1), (((), (3, 0, 1)), ((1,), (2,)), ((3, 0, 2), ())))
        # Of the four squares 0 and 2 do.
        touching = touching_of(FOUR_AT_A_SPOT)
        self.assertEqual(push_beside(touching, 1), (((), (4, 0, 1)), ((4, 0, 1), (2, 3)), ((2, 3), ())))
        self.assertEqual(push_beside(touching, 2), (((), (4, 0, 1)), ((0, 1), (2, 3)), ((4, 2, 3), ())))

    def test_lines_that_are_passed_over(self):
        # The right one of two lines at one height comes ahead of the left one.
        touching = (((), (0, 1, 2)), ((2,), (4,)), ((0,), (3,)), ((3, 1, 4), ()))
        self.assertEqual(push_beside(touching, 1),
                         (((), (5, 0, 1, 2)), ((2,), (4,)), ((5, 0), (3,)), ((3, 1, 4), ())))
        self.assertEqual(push_beside(touching, 2),
                         (((), (5, 0, 1, 2)), ((2,), (4,)), ((0,), (3,)), ((5, 3, 1, 4), ())))

    def test_23_and_24_squares(self):
        told = push_beside(touching_of(column(23)), 23)
        self.assertEqual(told[-1], ((23, 22), ()))
        self.assertTrue(is_touching(told))
        self.assertEqual(len(push_beside(touching_of(column(24)), 24)), 25)


class PushesTest(unittest.TestCase):
    def test_what_comes_is_a_touching_with_the_next_number(self):
        for squares in range(1, 6):
            for touching in pushed_from_one(squares):
                for pushed in pushes_of(touching):
                    self.assertIs(is_touching(pushed), True)
                    self.assertEqual(pushed[0][1][0], squares)
                    self.assertEqual(sum(len(below) for above, below in pushed), squares + 1)

    def test_pushed_away_again(self):
        # Without the new square all is as it was.
        for touching in pushed_from_one(5) + [touching_of(cut) for cut in CUTS if len(cut) < 24]:
            new = sum(len(below) for above, below in touching)
            hanging = touching[0][1]
            for many in range(1, len(hanging) + 1):
                pushed = push_over(touching, many)
                self.assertEqual(pushed[1], ((new,), hanging[:many]))
                self.assertEqual((((), pushed[1][1] + pushed[0][1][1:]),) + pushed[2:], touching)
            rim = rim_of(touching)
            for many in range(1, len(rim) + 1):
                pushed = push_beside(touching, many)
                marked = [line for line in pushed if new in line[0]]
                self.assertEqual([line[0][0] for line in marked], [new])
                self.assertIn(rim[many - 1], marked[0][0])
                bare = tuple(tuple(tuple(number for number in part if number != new) for part in line)
                             for line in pushed)
                self.assertEqual(bare, touching)

    def test_each_touching_comes_in_just_one_way(self):
        for squares, many in zip(range(1, 7), HOW_MANY_PUSHED):
            found = [canonical(touching) for touching in pushed_from_one(squares)]
            self.assertEqual(len(found), many)
            self.assertEqual(len(set(found)), many)

    def test_the_touching_of_each_cut_comes(self):
        for cut in few_square_cuts(5) + [row(6), column(6)]:
            found = [canonical(touching) for touching in pushed_from_one(len(cut))]
            self.assertEqual(found.count(canonical(touching_of(cut))), 1, cut)

    def test_beyond_the_bounds_without_an_error(self):
        for cut in [ONE, THREE, FOUR_AT_A_SPOT, row(24), column(24), row(26)]:
            for many in [-2, -1, 0, len(cut) + 1, len(cut) + 2, 30]:
                for push in [push_over, push_beside]:
                    self.assertIs(type(push(touching_of(cut), many)), tuple)


class AllCutsTest(unittest.TestCase):
    @classmethod
    def setUpClass(cls):
        cls.found = few_square_cuts(6)

    def test_by_hand(self):
        self.assertEqual(all_cuts(1), [ONE])
        self.assertEqual(all_cuts(many=2), [column(2), row(2)])
        self.assertEqual(all_cuts(3), [
            column(3), row(3),
            [(0, 0, 1), (1, 0, 1), (0, 1, 2)], [(0, 0, 1), (1, 0, 2), (0, 1, 1)],
            [(0, 0, 2), (0, 2, 1), (1, 2, 1)], [(0, 0, 2), (2, 0, 1), (2, 1, 1)]])

    def test_the_order_by_sides(self):
        self.assertEqual([order_of(cut)[0] for cut in all_cuts(4)],
                         [[1, 4]] * 2 + [[2, 2]] + [[2, 5]] * 6 + [[3, 4]] * 4 + [[3, 5]] * 8)

    def test_how_many(self):
        self.assertEqual([len(all_cuts(many)) for many in range(1, 7)], HOW_MANY)

    def test_all_of_them_each_once_and_no_other(self):
        for many in range(1, 7):
            expected = [cut for cut in self.found if len(cut) == many]
            self.assertEqual(all_cuts(many), sorted(expected, key=order_of))

    def test_each_is_a_lowest_cut_and_differs(self):
        for many in range(1, 7):
            told = all_cuts(many)
            for cut in told:
                self.assertIs(is_cut(cut), True)
                self.assertEqual((len(cut), lowest(cut)), (many, cut))
            self.assertEqual(len({tuple(cut) for cut in told}), len(told))

    def test_turned_and_mirrored_they_are_the_same_ones(self):
        for many in range(1, 7):
            told = all_cuts(many)
            self.assertEqual(sorted(turned(cut) for cut in told), sorted(told))
            self.assertEqual(sorted(mirrored(cut) for cut in told), sorted(told))

    def test_they_are_what_is_built_from_pushes(self):
        for many in range(1, 7):
            answers = [built(touching) for touching in pushed_from_one(many)]
            cuts = [answer[1] for answer in answers if answer[0] == "cut"]
            self.assertEqual(sorted(cuts), sorted(all_cuts(many)))

    def test_too_many(self):
        for many in BEYOND:
            with self.assertRaises(TooMany) as caught:
                all_cuts(many)
            self.assertEqual(caught.exception.many, many)
            self.assertIsInstance(caught.exception, SquareError)

    def test_the_told_lists_are_the_askers_own(self):
        first = all_cuts(3)
        kept = copy.deepcopy(first)
        for cut in first:
            cut.append((0, 0, 1))
        first.clear()
        self.assertEqual(all_cuts(3), kept)
        self.assertEqual(place_of(THREE), 5)


class PlaceOfTest(unittest.TestCase):
    def test_by_hand(self):
        self.assertEqual(place_of(ONE), 0)
        self.assertEqual([place_of(column(2)), place_of(row(2))], [0, 1])
        self.assertEqual(place_of(cut=THREE), 5)
        self.assertEqual(place_of(FOUR_AT_A_SPOT), 2)
        self.assertEqual(place_of(column(6)), 0)
        self.assertEqual(place_of(row(6)), 1)

    def test_each_cut_of_few_squares(self):
        for many in range(1, 6):
            told = all_cuts(many)
            self.assertEqual([place_of(cut) for cut in told], list(range(len(told))))

    def test_some_cuts_of_six_squares(self):
        told = all_cuts(6)
        for place in [0, 1, 2, 100, 186, 187, 250, 372, 373]:
            self.assertEqual(place_of(told[place]), place)

    def test_that_of_the_lowest_form(self):
        for times in [2, 3, 10 ** 8, GREATEST // 2]:
            self.assertEqual(place_of(grown(THREE, times)), 5)
            self.assertEqual(place_of(grown(FOUR_AT_A_SPOT, times)), 2)
        self.assertEqual(place_of([(0, 0, GREATEST)]), 0)

    def test_too_many(self):
        for cut in [row(7), column(7), UNLIKE, row(24), grown(row(7), 5)]:
            before = list(cut)
            with self.assertRaises(TooMany) as caught:
                place_of(cut)
            self.assertEqual(caught.exception.many, len(cut))
            self.assertEqual(cut, before)

    def test_nothing_is_changed_and_the_answer_stays(self):
        cut = grown(THREE, 4)
        self.assertEqual([place_of(cut), place_of(cut)], [5, 5])
        self.assertEqual(cut, grown(THREE, 4))


if __name__ == "__main__":
    unittest.main()
