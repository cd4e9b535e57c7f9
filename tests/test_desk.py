"""Promise 20, and 2 where it is about the desk."""

import unittest

from squareweb.cuts import like_ones, sides
from squareweb.desk import Desk
from squareweb.errors import BadSides, NoCut, NoName, NoRow, NoSquare, NoText, SquareError, TooMany
from squareweb.joins import beside, over, put_within
from squareweb.lines import touching_of
from squareweb.rows import cut_by_steps, fewest
from squareweb.texts import cut_text
from squareweb.turns import lowest, mirrored, turned
from squareweb.webs import full_streams, web_of
from tests.examples import (CUTS, FOUR_AT_A_SPOT, OTHER_THINGS, THREE, UNLIKE, column, few_square_cuts, grown, row)

BAD_NAMES = ["", "A", "aB", "abcdefghi", "a1", "1", "a-b", "a,", "~", "a_b", "Zz", "\u00e9", "abcdefgh1"]
BAD_NUMBERS = ["", "x", "-1", "+1", "01", "00", "1.0", "10000000000", "00000000001", "1_0", "1,", "one", "\u0661"]


def desk_with(**cuts):
    desk = Desk()
    for name, cut in cuts.items():
        desk.say(f"keep {name} {cut_text(cut)}")
    return desk


def usual_desk():
    return desk_with(three=THREE, four=FOUR_AT_A_SPOT, unlike=UNLIKE, row=row(24), big=grown(THREE, 6))


def kept_by(desk):
    """All that a desk keeps: texts by names."""
    names = desk.say("names").split(" ") if len(desk) else []
    return {name: desk.say(f"show {name}") for name in names}


class DeskTest(unittest.TestCase):
    def is_answered(self, desk, *rows):
        for row_told, answer in rows:
            told = desk.say(row_told)
            self.assertEqual(told, answer, row_told)
            self.assertIs(type(told), str)

    def refuses(self, desk, kind, row_told):
        """Tells the refusal; what is refused changes nothing."""
        before, many = kept_by(desk), len(desk)
        with self.assertRaises(kind) as caught:
            desk.say(row_told)
        self.assertIs(type(caught.exception), kind, row_told)
        self.assertIsInstance(caught.exception, SquareError)
        self.assertEqual((kept_by(desk), len(desk)), (before, many))
        return caught.exception


class KeepingTest(DeskTest):
    def test_a_desk_that_keeps_nothing(self):
        desk = Desk()
        self.assertEqual(len(desk), 0)
        self.is_answered(desk, ("names", "none"), ("names", "none"))
        for word in ["show", "sides", "like", "parts", "trees", "drop"]:
            self.refuses(desk, NoName, f"{word} a")

    def test_keep_and_show(self):
        desk = Desk()
        self.is_answered(desk, ("keep a 3 2: 2 1, 1", "ok"), ("show a", "3 2: 2 1, 1"), ("names", "a"))
        self.assertEqual(len(desk), 1)
        for cut in CUTS + few_square_cuts(4):
            self.is_answered(desk, (f"keep a {cut_text(cut)}", "ok"), ("show a", cut_text(cut)))
        self.assertEqual(len(desk), 1)

    def test_kept_anew(self):
        desk = desk_with(a=THREE, b=UNLIKE)
        self.is_answered(desk, ("keep a 1 1: 1", "ok"), ("show a", "1 1: 1"), ("names", "a b"),
                         ("steps a 5 3", "4"), ("show a", "5 3: 3 2, 1 1"), ("turn b a", "4"),
                         ("show b", "3 5: 3, 1 2, 1"), ("names", "a b"))
        self.assertEqual(len(desk), 2)

    def test_a_cut_that_is_kept_stays_as_it_is(self):
        desk = desk_with(a=THREE)
        self.is_answered(desk, ("low b a", "3"), ("turn a a", "3"), ("show b", "3 2: 2 1, 1"),
                         ("drop a", "ok"), ("show b", "3 2: 2 1, 1"))

    def test_names(self):
        desk = Desk()
        for many, name in enumerate(["b", "zzzzzzzz", "a", "abcdefgh", "ab", "z", "none", "keep"]):
            self.is_answered(desk, (f"steps {name} 1 1", "1"))
            self.assertEqual(len(desk), many + 1)
        self.is_answered(desk, ("names", "a ab abcdefgh b keep none z zzzzzzzz"))

    def test_drop(self):
        desk = desk_with(a=THREE, b=UNLIKE)
        self.is_answered(desk, ("drop a", "ok"), ("names", "b"))
        self.assertEqual(len(desk), 1)
        self.refuses(desk, NoName, "drop a")
        self.refuses(desk, NoName, "show a")
        self.is_answered(desk, ("drop b", "ok"), ("names", "none"))
        self.assertEqual(len(desk), 0)
        self.is_answered(desk, ("keep a 1 1: 1", "ok"), ("names", "a"))

    def test_two_desks_share_nothing(self):
        one, other = desk_with(a=THREE), Desk()
        self.assertEqual((len(one), len(other)), (1, 0))
        self.is_answered(other, ("keep a 1 1: 1", "ok"))
        self.is_answered(one, ("show a", "3 2: 2 1, 1"))

    def test_by_its_name(self):
        self.assertEqual(Desk().say(row="names"), "none")


class MakingTest(DeskTest):
    def is_made(self, desk, row_told, name, cut):
        self.is_answered(desk, (row_told, str(len(cut))), (f"show {name}", cut_text(cut)))

    def test_steps(self):
        for width, height in [(1, 1), (5, 3), (3, 5), (6, 4), (24, 1), (10 ** 6, 10 ** 6), (10 ** 6, 5 * 10 ** 5)]:
            self.is_made(Desk(), f"steps a {width} {height}", "a", cut_by_steps(width, height))

    def test_fewest(self):
        desk = Desk()
        for width in range(1, 10):
            for height in range(1, 10):
                self.is_made(desk, f"fewest a {width} {height}", "a", fewest(width, height)[1])

    def test_put_together(self):
        desk = usual_desk()
        self.is_made(desk, "beside new three unlike", "new", beside(THREE, UNLIKE))
        self.is_made(desk, "beside new unlike three", "new", beside(UNLIKE, THREE))
        self.is_made(desk, "over new three unlike", "new", over(THREE, UNLIKE))
        self.is_made(desk, "over new unlike three", "new", over(UNLIKE, THREE))
        self.is_made(desk, "beside new three three", "new", beside(THREE, THREE))

    def test_put_within(self):
        desk = usual_desk()
        for number in range(3):
            self.is_made(desk, f"within new three {number} four", "new", put_within(THREE, number, FOUR_AT_A_SPOT))

    def test_turned_mirrored_and_low(self):
        desk = usual_desk()
        self.is_made(desk, "turn new three", "new", turned(THREE))
        self.is_made(desk, "mirror new unlike", "new", mirrored(UNLIKE))
        self.is_made(desk, "low new big", "new", THREE)
        self.is_made(desk, "turn new big", "new", turned(grown(THREE, 6)))
        self.assertEqual(lowest(grown(THREE, 6)), THREE)

    def test_kept_by_a_name_that_it_is_made_of(self):
        desk = usual_desk()
        self.is_made(desk, "beside three three four", "three", beside(THREE, FOUR_AT_A_SPOT))
        self.is_made(desk, "within four four 3 four", "four", put_within(FOUR_AT_A_SPOT, 3, FOUR_AT_A_SPOT))
        self.is_made(desk, "turn unlike unlike", "unlike", turned(UNLIKE))

    def test_turned_by_four_quarters_and_mirrored_twice(self):
        desk = usual_desk()
        before = kept_by(desk)
        for name in before:
            for word in ["turn"] * 4 + ["mirror"] * 2:
                desk.say(f"{word} {name} {name}")
        self.assertEqual(kept_by(desk), before)

    def test_a_cut_that_reaches_beyond_the_bounds_when_mirrored(self):
        desk = Desk()
        half = 5 * 10 ** 8
        wide = [(0, 0, half), (half, 0, half), (2 * half, 0, 2 * half), (0, half, half), (half, half, half)]
        self.is_answered(desk, (f"keep a {cut_text(wide)}", "ok"), ("mirror a a", "5"),
                         ("show a", "2000000000 1000000000: 1000000000 500000000 500000000, 500000000 500000000"),
                         ("sides a", "2000000000 1000000000"), ("mirror a a", "5"), ("show a", cut_text(wide)))


class AskingTest(DeskTest):
    def test_sides(self):
        desk = usual_desk()
        self.is_answered(desk, ("sides three", "3 2"), ("sides unlike", "33 32"), ("sides row", "24 1"),
                         ("sides big", "18 12"))

    def test_like(self):
        desk = usual_desk()
        self.is_answered(desk, ("like three", "1 2"), ("like unlike", "none"), ("like row", "0 1"))

    def test_parts(self):
        desk = usual_desk()
        desk.say("turn flat three")
        desk.say("steps one 7 7")
        self.is_answered(desk, ("parts three", "beside 2"), ("parts flat", "over 2"), ("parts unlike", "one"),
                         ("parts row", "beside 24"), ("parts one", "one"), ("parts four", "beside 2"))
        desk.say("turn row row")
        self.is_answered(desk, ("parts row", "over 24"))

    def test_trees(self):
        desk = usual_desk()
        # Of a row two lines and 24 squares between them: each alone is a tree.
        self.is_answered(desk, ("trees three", "3"), ("trees four", "4"), ("trees row", "24"), ("trees big", "3"))
        # Of a column all 24 squares are needed.
        desk.say("turn col row")
        self.is_answered(desk, ("trees col", "1"))
        heights, sizes = full_streams(web_of(touching_of(UNLIKE)))
        self.is_answered(desk, ("trees unlike", str(sizes[0] + sizes[1])))

    def test_all_of_few_squares(self):
        desk = Desk()
        for cut in few_square_cuts(4):
            like = like_ones(cut)
            width, height = sides(cut)
            self.is_answered(desk, (f"keep a {cut_text(cut)}", "ok"), ("sides a", f"{width} {height}"),
                             ("like a", f"{like[0]} {like[1]}" if like else "none"))

    def test_asking_changes_nothing_and_is_answered_the_same(self):
        desk = usual_desk()
        before = kept_by(desk)
        for name in before:
            for word in ["show", "sides", "like", "parts", "trees"]:
                self.assertEqual(desk.say(f"{word} {name}"), desk.say(f"{word} {name}"))
        self.assertEqual(kept_by(desk), before)


class NoRowTest(DeskTest):
    def test_what_is_no_text(self):
        desk = usual_desk()
        for thing in OTHER_THINGS + [["names"], ("names",), b"names", ["show", "three"], 5, [THREE]]:
            self.refuses(desk, NoRow, thing)

    def test_words_that_begin_no_row(self):
        desk = usual_desk()
        for told in ["", " ", "  ", "name", "Names", "NAMES", "names:", "three", "put a b", "1", "shows three",
                     "sho three", "list", "help", " names", " show three", "\tnames", "names\n", "show\tthree",
                     "SHOW three", "drops three", "None", "~", "cut a", "place three", "least a three"]:
            self.refuses(desk, NoRow, told)

    def test_too_few_words_or_too_many(self):
        desk = usual_desk()
        forms = ["steps new 3 2", "fewest new 3 2", "beside new three four", "over new three four",
                 "within new three 0 four", "turn new three", "mirror new three", "low new three", "show three",
                 "sides three", "like three", "parts three", "trees three", "drop three", "names"]
        for form in forms:
            words = form.split(" ")
            for many in range(1, len(words)):
                self.refuses(desk, NoRow, " ".join(words[:many]))
            for more in [" ", "  ", " x", " three", " 1"]:
                self.refuses(desk, NoRow, form + more)
            self.refuses(desk, NoRow, " " + form)
        self.refuses(desk, NoRow, "keep")
        self.refuses(desk, NoRow, "keep ")
        self.refuses(desk, NoRow, "keep new")
        self.refuses(desk, NoRow, "keep BAD")

    def test_two_blanks(self):
        desk = usual_desk()
        for told in ["steps new  3 2", "steps new 3  2", "steps  new 3 2", "show  three", "turn  new three",
                     "turn new  three", "within new three  0 four"]:
            self.refuses(desk, NoRow, told)

    def test_numbers_that_are_none(self):
        desk = usual_desk()
        for number in BAD_NUMBERS:
            for told in [f"steps new {number} 2", f"steps new 2 {number}", f"fewest new {number} 2",
                         f"fewest new 2 {number}", f"within new three {number} four"]:
                self.refuses(desk, NoRow, told)

    def test_numbers_of_ten_figures(self):
        desk = usual_desk()
        for word in ["steps", "fewest"]:
            told = self.refuses(desk, BadSides, f"{word} new 9999999999 1000000000")
            self.assertEqual((told.width, told.height), (9999999999, 1000000000))
        self.assertEqual(self.refuses(desk, NoSquare, "within new three 9999999999 four").number, 9999999999)


class NoNameTest(DeskTest):
    def test_names_that_are_none(self):
        desk = usual_desk()
        for name in BAD_NAMES:
            for told in [f"keep {name} 1 1: 1", f"steps {name} 3 2", f"fewest {name} 3 2", f"beside {name} three four",
                         f"over {name} three four", f"within {name} three 0 four", f"turn {name} three",
                         f"mirror {name} three", f"low {name} three"]:
                self.refuses(desk, NoName, told)

    def test_names_that_nothing_is_kept_by(self):
        desk = usual_desk()
        for name in BAD_NAMES + ["a", "thre", "threee", "abcdefgh"]:
            for told in [f"show {name}", f"sides {name}", f"like {name}", f"parts {name}", f"trees {name}",
                         f"drop {name}", f"beside new {name} four", f"beside new three {name}",
                         f"over new {name} four", f"over new three {name}", f"within new {name} 0 four",
                         f"within new three 0 {name}", f"turn new {name}", f"mirror new {name}", f"low new {name}"]:
                self.refuses(desk, NoName, told)
        # What is to be kept by a name is not yet kept by it.
        self.refuses(desk, NoName, "turn new new")

    def test_empty_words(self):
        desk = usual_desk()
        for told in ["show ", "drop ", "sides ", "turn  ", "turn new ", "turn  three", "low  ", "beside   ",
                     "beside new three ", "within new three 0 ", "within   0 ", "keep  ", "keep  1 1: 1",
                     "steps  1 1", "fewest  1 1"]:
            self.refuses(desk, NoName, told)


class NoTextTest(DeskTest):
    def test_texts_of_no_cut(self):
        desk = usual_desk()
        for text in ["", " ", "1", "1 1", "1 1:", "1 1: ", "1 1: 1 ", " 1 1: 1", "01 1: 1", "3 2: 2 1 1", "three",
                     "3 2: 2  1, 1", "10000000000 10000000000: 10000000000", "1000000001 1000000001: 1000000001",
                     cut_text(row(25)), cut_text(column(25))]:
            self.refuses(desk, NoText, f"keep new {text}")
            self.refuses(desk, NoText, f"keep three {text}")
        self.is_answered(desk, ("show three", "3 2: 2 1, 1"))

    def test_24_squares(self):
        desk = Desk()
        self.is_answered(desk, (f"keep a {cut_text(row(24))}", "ok"), (f"keep b {cut_text(column(24))}", "ok"))


class OtherRefusalsTest(DeskTest):
    def test_bad_sides(self):
        desk = usual_desk()
        for word, width, height in [("steps", 0, 1), ("steps", 1, 0), ("steps", 10 ** 6 + 1, 1), ("steps", 0, 0),
                                    ("fewest", 0, 1), ("fewest", 9, 10), ("fewest", 10, 9), ("fewest", 0, 0)]:
            told = self.refuses(desk, BadSides, f"{word} new {width} {height}")
            self.assertEqual((told.width, told.height), (width, height))
            self.refuses(desk, BadSides, f"{word} three {width} {height}")

    def test_too_many(self):
        desk = usual_desk()
        for told, many in [("steps new 25 1", 25), ("steps new 1 1000000", 10 ** 6), ("beside new row three", 27),
                           ("over three three row", 27), ("beside row row row", 48), ("within new row 23 four", 27)]:
            self.assertEqual(self.refuses(desk, TooMany, told).many, many)

    def test_put_within(self):
        desk = usual_desk()
        for number in [3, 4, 24, 10 ** 9]:
            told = self.refuses(desk, NoSquare, f"within three three {number} four")
            self.assertEqual(told.number, number)
        self.refuses(desk, NoCut, "within new three 0 three")
        self.refuses(desk, NoCut, "within new three 2 row")


class OrderOfRefusalsTest(DeskTest):
    def test_no_row_goes_first(self):
        desk = usual_desk()
        for told in ["steps BAD 01 5", "steps BAD 5 x", "fewest  -1 0", "within BAD none x none", "turn BAD none x",
                     "within new none 00 none", "show none x"]:
            self.refuses(desk, NoRow, told)

    def test_then_no_name(self):
        desk = usual_desk()
        for told in ["keep BAD no text", "keep  ", "keep abcdefghi 01 1: 1", "steps BAD 0 0", "steps BAD 25 1",
                     "fewest BAD 0 10", "beside BAD row row", "beside new row none", "over new none row",
                     "within BAD three 9 three", "within new none 9 three", "within new three 9 none",
                     "within new row 0 none"]:
            self.refuses(desk, NoName, told)

    def test_then_as_the_function_refuses(self):
        desk = usual_desk()
        self.refuses(desk, BadSides, "steps new 1000001 1")
        self.refuses(desk, NoSquare, "within new row 24 three")
        self.refuses(desk, NoSquare, "within new row 24 four")
        self.refuses(desk, NoCut, "within new row 23 three")
        self.refuses(desk, TooMany, "within new row 23 four")

    def test_a_desk_goes_on_after_refusals(self):
        desk = Desk()
        for told in [None, "names x", "show a", "keep a x", "steps a 0 0", "steps a 25 1"]:
            with self.assertRaises(SquareError):
                desk.say(told)
        self.assertEqual(len(desk), 0)
        self.is_answered(desk, ("names", "none"), ("keep a 1 1: 1", "ok"), ("names", "a"))


if __name__ == "__main__":
    unittest.main()
