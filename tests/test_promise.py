"""Promise 3, and 2 where it is about the whole program, over all cuts of few squares."""

import copy
import unittest

from squareweb.built import built
from squareweb.cuts import is_cut, like_ones, sides
from squareweb.desk import Desk
from squareweb.joins import beside, over, parted, put_within
from squareweb.lines import is_touching, lines, touching_of
from squareweb.lists import all_cuts, place_of, push_beside, push_over
from squareweb.texts import cut_text, read_cut
from squareweb.turns import least_form, lowest, mirrored, turned
from squareweb.webs import are_streams, full_streams, is_web, low_streams, trees, web_of
from tests.examples import ONE, few_square_cuts, grown

MOST = 6


def told_cuts():
    return [cut for many in range(1, MOST + 1) for cut in all_cuts(many)]


class PromiseTest(unittest.TestCase):
    @classmethod
    def setUpClass(cls):
        cls.cuts = told_cuts()

    def test_each_is_told_once_and_no_other(self):
        self.assertEqual(sorted(self.cuts), sorted(few_square_cuts(MOST)))
        self.assertEqual(len({tuple(cut) for cut in self.cuts}), len(self.cuts))

    def test_each_is_built_again_from_its_touching(self):
        for cut in self.cuts:
            touching = touching_of(cut)
            self.assertIs(is_touching(touching), True)
            self.assertEqual(built(touching), ("cut", cut, tuple(range(len(cut)))))
            self.assertEqual(built(touching_of(grown(cut, 35))), built(touching))

    def test_each_is_written_and_read_to_the_same(self):
        for cut in self.cuts:
            for form in [cut, grown(cut, 3), grown(cut, 10 ** 7)]:
                self.assertEqual(read_cut(cut_text(form)), form)

    def test_a_desk_keeps_and_shows_each(self):
        desk = Desk()
        for cut in self.cuts:
            self.assertEqual(desk.say(f"keep a {cut_text(cut)}"), "ok")
            self.assertEqual(desk.say("show a"), cut_text(cut))

    def test_the_streams_check_and_are_the_sizes(self):
        for cut in self.cuts:
            web = web_of(touching_of(cut))
            self.assertIs(is_web(web), True)
            for streams in [full_streams(web), low_streams(web)]:
                self.assertIs(are_streams(web, streams), True)
            self.assertEqual(low_streams(web)[1], tuple(side for left, top, side in cut))
            width = sum(size for (one, other), size in zip(web[1], full_streams(web)[1]) if one == 0)
            self.assertEqual(width, trees(web))

    def test_turned_and_mirrored_back(self):
        for cut in self.cuts:
            self.assertEqual(turned(turned(turned(turned(cut)))), cut)
            self.assertEqual(mirrored(mirrored(cut)), cut)
            for form in [turned(cut), mirrored(cut)]:
                self.assertEqual(least_form(form), least_form(cut))
                self.assertIn(form, self.cuts)

    def test_put_together_and_parted_again(self):
        for cut in self.cuts:
            own = parted(cut)
            parts = own[1] if own[0] == "beside" else [cut]
            self.assertEqual(parted(beside(cut, ONE)), ("beside", parts + [ONE]))
            self.assertEqual(parted(beside(ONE, cut)), ("beside", [ONE] + parts))
            self.assertEqual(put_within(ONE, 0, [(0, 0, 4)]), ONE)
            if len(cut) < MOST:
                self.assertIn(beside(cut, ONE), self.cuts)
                self.assertIn(over(ONE, cut), self.cuts)


class HandedInTest(unittest.TestCase):
    def test_nothing_is_changed_and_all_is_answered_the_same(self):
        asks = [is_cut, sides, like_ones, lines, touching_of, lowest, turned, mirrored, least_form, parted, cut_text]
        for cut in [cut for many in range(1, 5) for cut in all_cuts(many)]:
            before = copy.deepcopy(cut)
            first = [ask(cut) for ask in asks] + [place_of(cut)]
            self.assertEqual([ask(cut) for ask in asks] + [place_of(cut)], first)
            self.assertEqual(cut, before)

    def test_what_was_told_is_changed_and_asked_again(self):
        for cut in [cut for many in range(1, 5) for cut in all_cuts(many)]:
            kept = list(cut)
            asks = [lambda: lines(cut), lambda: lowest(cut), lambda: turned(cut, 0), lambda: turned(cut),
                    lambda: mirrored(cut), lambda: least_form(cut), lambda: built(touching_of(cut))[1],
                    lambda: beside(cut, cut), lambda: over(cut, cut), lambda: read_cut(cut_text(cut)),
                    lambda: all_cuts(len(cut))]
            for ask in asks:
                told = ask()
                first = copy.deepcopy(told)
                told.clear()
                self.assertEqual(ask(), first)
                self.assertEqual(cut, kept)

    def test_touchings_stay_as_they_are(self):
        for cut in all_cuts(4):
            touching = touching_of(cut)
            push_over(touching, 1)
            push_beside(touching, 1)
            built(touching)
            self.assertEqual(touching, touching_of(cut))


if __name__ == "__main__":
    unittest.main()
