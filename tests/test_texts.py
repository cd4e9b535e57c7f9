"""Promise 19, and 2 and 3 where they are about cuts written and read."""

import copy
import itertools
import unittest

from squareweb.cuts import is_cut, sides
from squareweb.errors import NoText, SquareError
from squareweb.texts import cut_text, read_cut
from squareweb.turns import mirrored, turned
from tests.examples import (CUTS, FOUR_AT_A_SPOT, GREATEST, ONE, OTHER_THINGS, THREE, TWO_LINES_AT_ONE_HEIGHT, UNLIKE,
                            column, deep, few_square_cuts, grown, list_of, row, small_fillings, tuple_of)

BY_HAND = [
    (ONE, "1 1: 1"),
    (row(2), "2 1: 1 1"),
    (column(2), "1 2: 1, 1"),
    (row(3, 10), "30 10: 10 10 10"),
    (THREE, "3 2: 2 1, 1"),
    (turned(THREE), "2 3: 2, 1 1"),
    (FOUR_AT_A_SPOT, "2 2: 1 1, 1 1"),
    (TWO_LINES_AT_ONE_HEIGHT, "4 2: 1 2 1, 1, 1"),
    (UNLIKE, "33 32: 18 15, 7 8, 14 4, 10 1, 9"),
    ([(0, 0, GREATEST)], "1000000000 1000000000: 1000000000"),
    (row(2, GREATEST), "2000000000 1000000000: 1000000000 1000000000"),
    (column(2, GREATEST), "1000000000 2000000000: 1000000000, 1000000000"),
    (row(24), "24 1: " + " ".join(["1"] * 24)),
    (column(24), "1 24: " + ", ".join(["1"] * 24)),
]


def written(cut):
    """The text of a cut: squares that rise by (top, left) hang below one line where each begins as that ahead ends."""
    text = f"{max(left + side for left, top, side in cut)} {max(top + side for left, top, side in cut)}: "
    for number, (left, top, side) in enumerate(cut):
        if number:
            ahead_left, ahead_top, ahead_side = cut[number - 1]
            text += " " if (left, top) == (ahead_left + ahead_side, ahead_top) else ", "
        text += str(side)
    return text


def changed_texts(text):
    """The text with one sign left out, put in, exchanged, or exchanged with the next one."""
    for at in range(len(text) + 1):
        for sign in "0129 :,;-+a~":
            yield text[:at] + sign + text[at:]
            yield text[:at] + sign + text[at + 1:]
        yield text[:at] + text[at + 1:]
        yield text[:at] + text[at + 1:at + 2] + text[at:at + 1] + text[at + 2:]


class CutTextTest(unittest.TestCase):
    def test_by_hand(self):
        for cut, text in BY_HAND:
            self.assertEqual(cut_text(cut), text)
        self.assertEqual(cut_text(cut=THREE), "3 2: 2 1, 1")

    def test_all_small_ones(self):
        for cut in CUTS + small_fillings() + few_square_cuts(5):
            self.assertEqual(cut_text(cut), written(cut))

    def test_no_two_cuts_have_the_same_text(self):
        found = few_square_cuts(5) + small_fillings()
        self.assertEqual(len({cut_text(cut) for cut in found}), len({tuple(cut) for cut in found}))

    def test_beyond_the_bounds_without_an_error(self):
        self.assertEqual(cut_text(row(26)), "26 1: " + " ".join(["1"] * 26))
        self.assertEqual(cut_text([(0, 0, 10 ** 12)]), "1000000000000 1000000000000: 1000000000000")

    def test_nothing_is_changed(self):
        cut = list(UNLIKE)
        self.assertEqual(cut_text(cut), cut_text(cut))
        self.assertEqual(cut, UNLIKE)


class ReadTest(unittest.TestCase):
    def test_by_hand(self):
        for cut, text in BY_HAND:
            self.assertEqual(read_cut(text), cut)
        self.assertEqual(read_cut(text="3 2: 2 1, 1"), THREE)

    def test_what_is_written_is_read_to_the_same(self):
        for cut in CUTS + small_fillings() + few_square_cuts(5):
            told = read_cut(cut_text(cut))
            self.assertEqual(told, cut)
            self.assertIs(is_cut(told), True)

    def test_not_lowest(self):
        for times in [2, 7, 10 ** 7]:
            for form in [UNLIKE, turned(UNLIKE), mirrored(UNLIKE), turned(UNLIKE, 2)]:
                self.assertEqual(read_cut(cut_text(grown(form, times))), grown(form, times))

    def test_the_told_list_is_the_askers_own(self):
        first = read_cut("3 2: 2 1, 1")
        self.assertIsNot(read_cut("3 2: 2 1, 1"), first)
        first.clear()
        self.assertEqual(read_cut("3 2: 2 1, 1"), THREE)


class NoTextTest(unittest.TestCase):
    def refuses(self, thing):
        before = copy.deepcopy(thing)
        with self.assertRaises(NoText) as caught:
            read_cut(thing)
        self.assertIsInstance(caught.exception, SquareError)
        self.assertEqual(thing, before)

    def test_what_is_no_text(self):
        for thing in OTHER_THINGS:
            self.refuses(thing)
        for thing in [THREE, tuple(THREE), ["3 2: 2 1, 1"], ("1 1: 1",), [3, 2, [2, 1], [1]], list("1 1: 1"),
                      b"1 1: 1", deep("1 1: 1", list_of), deep("1 1: 1", tuple_of)]:
            self.refuses(thing)

    def test_empty_and_short_texts(self):
        for text in ["", " ", ":", ": ", ",", "1", "1 1", "1 1:", "1 1: ", "1 1: ,", "1 1 1", "1: 1", "1 : 1", " 1: 1",
                     "1 1 : 1", "1 1:1", "1, 1: 1", "1 1, 1", "1 1:, 1", "1 1: 1,", "1 1: 1, ", "1 1: 1:", "1 1:: 1",
                     "1: 1: 1", "1 1: : 1", "1,1,1", "1:1:1"]:
            self.refuses(text)

    def test_blanks(self):
        for text in ["1  1: 1", "1 1:  1", " 1 1: 1", "1 1: 1 ", "3 2: 2  1, 1", "3 2: 2 1,  1", "3 2: 2 1 , 1",
                     "3 2: 2 1,1", "3 2:2 1, 1", "3 2 : 2 1, 1", "3\t2: 2 1, 1", "3 2: 2 1, 1\n", "\n3 2: 2 1, 1"]:
            self.refuses(text)

    def test_lines_that_are_others(self):
        for text in ["3 2: 2, 1, 1", "3 2: 2 1 1", "3 2: 2, 1 1", "2 1: 1, 1", "1 2: 1 1", "2 2: 1 1 1 1",
                     "2 2: 1, 1, 1, 1", "2 2: 1 1, 1, 1", "4 2: 1 2 1, 1 1", "2 2: 1 1, , 1 1", "2 2: , 1 1, 1 1",
                     "2 2: 1 1, 1 1, "]:
            self.refuses(text)

    def test_sides_that_are_others(self):
        for text in ["2 2: 1", "1 2: 1", "2 1: 1", "2 1: 2", "3 2: 2 1, 2", "3 2: 1 2, 2", "3 2: 2 1",
                     "3 2: 2 1, 1, 1", "2 3: 2 1, 1", "3 3: 2 1, 1", "4 2: 2 1, 1", "5 5: 2 3, 3 2", "5 5: 3 2, 2 3",
                     "4 4: 3 1, 1, 1"]:
            self.refuses(text)

    def test_noughts(self):
        for text in ["01 1: 1", "1 01: 1", "1 1: 01", "00 00: 00", "0 0: 0", "1 0: 0", "0 1: 1", "1 1: 0", "2 1: 1 0 1",
                     "1 1: 1 0", "1 1: 1, 0", "1 1: 0, 1", "0000000001 1: 1", "00000000001 1: 1"]:
            self.refuses(text)
        self.assertEqual(read_cut("10 10: 10"), [(0, 0, 10)])

    def test_ten_figures_and_eleven(self):
        self.assertEqual(read_cut("1000000000 1000000000: 1000000000"), [(0, 0, GREATEST)])
        self.assertEqual(sides(read_cut("2000000000 1000000000: 1000000000 1000000000")), (2 * GREATEST, GREATEST))
        # A number of ten figures, but a side beyond the bounds of a cut.
        self.refuses("1000000001 1000000001: 1000000001")
        self.refuses("9999999999 9999999999: 9999999999")
        # Only the third square begins beyond them.
        self.refuses("3000000000 1000000000: 1000000000 1000000000 1000000000")
        self.refuses("10000000000 10000000000: 10000000000")
        self.refuses("01000000000 1000000000: 1000000000")
        self.refuses("1" * 2000)
        self.refuses("1" * 600 + " " + "1" * 600 + ": " + "1" * 600)
        self.refuses("1" * 5000 + " 1: 1")

    def test_24_squares_and_25(self):
        self.assertEqual(read_cut(written(row(24))), row(24))
        self.assertEqual(read_cut(written(column(24))), column(24))
        self.refuses(written(row(25)))
        self.refuses(written(column(25)))
        self.refuses("25 1: " + "1 " * 24 + "1")
        self.refuses("1 " * 1000)
        self.refuses("995 1: " + " ".join(["1"] * 995))

    def test_other_signs(self):
        for text in ["+1 1: 1", "-1 1: 1", "1 1: -1", "1 1: +1", "1.0 1: 1", "1_0 10: 10", "0x1 1: 1", "1e0 1: 1",
                     "a b: c", "1 1; 1", "1 1: 1;", "1 1: 1.", "(1 1: 1)", "one one: one", "1 1: 1~", "~", "1,000 1: 1",
                     "1 1: 1, 1", "\u0661 \u0661: \u0661", "1 1: \u00b9", "\uff11 1: 1"]:
            self.refuses(text)

    def test_changed_texts(self):
        known = {written(cut): cut for cut in small_fillings() + few_square_cuts(5)}
        for cut in few_square_cuts(4) + [row(5, 20), UNLIKE]:
            for text in changed_texts(written(cut)):
                if text == written(cut):
                    continue
                if text in known:
                    self.assertEqual(read_cut(text), known[text])
                else:
                    self.refuses(text)

    def test_all_short_texts(self):
        for many in range(7):
            for signs in itertools.product("012 :,", repeat=many):
                text = "".join(signs)
                if text in ["1 1: 1", "2 2: 2"]:
                    self.assertEqual(read_cut(text), [(0, 0, int(text[0]))])
                else:
                    with self.assertRaises(NoText):
                        read_cut(text)


if __name__ == "__main__":
    unittest.main()
