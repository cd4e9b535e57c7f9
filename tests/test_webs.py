"""Promises 8 and 9, and 2 and 3 where they are about webs and streams."""

import copy
import itertools
import unittest

from squareweb.lines import touching_of
from squareweb.webs import are_streams, full_streams, is_web, low_streams, trees, web_of
from tests.examples import (CUTS, FOUR_AT_A_SPOT, ONE, OTHER_THINGS, THREE, TWO_LINES_AT_ONE_HEIGHT, UNLIKE, column,
                            deep, list_of, row, small_fillings, tuple_of)

LEAST = (2, ((0, 1),))
# The web of THREE: one tie past two that hang on each other.
PAST = (3, ((0, 2), (0, 1), (1, 2)))
# Four knots with a tie between the two in the middle, in which nothing flows.
BRIDGE = (4, ((0, 1), (0, 2), (1, 2), (1, 3), (2, 3)))
# With one more tie from 0 to 2 the tie (1, 2) is gone through from its other to its one.
UPWARD = (4, ((0, 1), (0, 2), (0, 2), (1, 2), (1, 3), (2, 3)))
UNLIKE_WEB = (6, ((0, 2), (0, 1), (1, 3), (1, 4), (2, 5), (2, 3), (3, 5), (3, 4), (4, 5)))


def chain(many):
    return (many, tuple((at, at + 1) for at in range(many - 1)))


def bundle(ties):
    return (2, ((0, 1),) * ties)


def all_tied(many):
    """Each knot tied to each other one."""
    return (many, tuple(itertools.combinations(range(many), 2)))


def doubled_chain():
    """25 knots and 40 ties: of the 24 stretches of a chain the first 16 have two ties."""
    single = chain(25)[1]
    return (25, tuple(sorted(single + single[:16])))


WEBS = [LEAST, PAST, BRIDGE, UPWARD, UNLIKE_WEB, chain(3), chain(25), bundle(2), bundle(40), all_tied(3), all_tied(4),
        all_tied(9), doubled_chain(), (3, ((1, 2), (0, 1))), (3, ((0, 2), (1, 2), (0, 1), (0, 2), (1, 2)))]


def small_webs():
    """All webs of at most four knots and five ties, but for the order of the ties."""
    found = []
    for many in range(2, 5):
        pairs = list(itertools.combinations(range(many), 2))
        for much in range(1, 6):
            for ties in itertools.combinations_with_replacement(pairs, much):
                begun = {one for one, other in ties}
                ended = {other for one, other in ties}
                if all(knot in begun for knot in range(many - 1)) and all(knot in ended for knot in range(1, many)):
                    found.append((many, ties))
    return found


def trees_by_trying(knots, ties):
    """Counts the sets of ties that join all knots and have one tie less than there are knots."""
    return sum(are_joined(knots, chosen) for chosen in itertools.combinations(ties, len(knots) - 1))


def are_joined(knots, ties):
    group = {knot: knot for knot in knots}
    for one, other in ties:
        old, new = group[one], group[other]
        for knot in knots:
            if group[knot] == old:
                group[knot] = new
    return len(set(group.values())) == 1


def trees_with_ends_made_one(web):
    many, ties = web
    last = many - 1
    ties = [tuple(0 if knot == last else knot for knot in tie) for tie in ties if tie != (0, last)]
    return trees_by_trying(list(range(last)), ties)


def width_at_first(web, sizes):
    return sum(size for (one, other), size in zip(web[1], sizes) if one == 0)


def width_at_last(web, sizes):
    return sum(size for (one, other), size in zip(web[1], sizes) if other == web[0] - 1)


def are_streams_by_the_words(web, heights, sizes):
    many, ties = web
    if heights[many - 1] != 0 or list(sizes) != [heights[one] - heights[other] for one, other in ties]:
        return False
    for knot in range(1, many - 1):
        ending = [size for (one, other), size in zip(ties, sizes) if other == knot]
        beginning = [size for (one, other), size in zip(ties, sizes) if one == knot]
        if sum(ending) != sum(beginning):
            return False
    return True


def by_heights(web, heights):
    return (heights, tuple(heights[one] - heights[other] for one, other in web[1]))


def times(streams, factor):
    return tuple(tuple(number * factor for number in part) for part in streams)


def replaced(thing, at, part):
    return thing[:at] + (part,) + thing[at + 1:]


class IsWebTest(unittest.TestCase):
    def is_told(self, thing, told):
        self.assertIs(is_web(thing), told, thing)

    def test_webs(self):
        for web in WEBS + small_webs():
            self.is_told(web, True)
        self.assertIs(is_web(thing=LEAST), True)

    def test_webs_of_touchings(self):
        for cut in CUTS + small_fillings():
            self.is_told(web_of(touching_of(cut)), True)

    def test_how_many_knots(self):
        self.is_told(chain(24), True)
        self.is_told(chain(25), True)
        self.is_told(chain(26), False)
        self.is_told(chain(27), False)
        for many in [-1, 0, 1]:
            self.is_told((many, ()), False)
            self.is_told((many, ((0, 1),)), False)
            self.is_told((many, ((0, 0),)), False)
        for many in [3, 25, 26, 10 ** 39, 10 ** 40 - 1, -(10 ** 40 - 1)]:
            self.is_told((many, ((0, 1),)), False)

    def test_how_many_ties(self):
        self.is_told((2, ()), False)
        self.is_told(bundle(1), True)
        self.is_told(bundle(39), True)
        self.is_told(bundle(40), True)
        self.is_told(bundle(41), False)
        self.is_told(bundle(42), False)
        self.is_told((2, ((0, 1),) * 1000), False)
        many, ties = doubled_chain()
        self.assertEqual((many, len(ties)), (25, 40))
        self.is_told((25, ties), True)
        self.is_told((25, ties + ((0, 24),)), False)

    def test_one_is_less_than_other(self):
        for tie in [(0, 0), (1, 1), (2, 2), (1, 0), (2, 0), (2, 1)]:
            self.is_told((3, PAST[1] + (tie,)), False)
        for tie in PAST[1]:
            self.is_told((3, PAST[1] + (tie,)), True)

    def test_ties_of_knots_that_are_none(self):
        for tie in [(-1, 0), (-1, 1), (-2, -1), (0, 3), (2, 3), (3, 4), (0, 10 ** 39), (-(10 ** 39), 2)]:
            self.is_told((3, PAST[1] + (tie,)), False)
        self.is_told((2, ((-1, 0),)), False)
        self.is_told((2, ((0, 1), (1, 2))), False)
        self.is_told((2, ((-1, 0), (0, 1))), False)

    def test_a_knot_that_is_no_other(self):
        self.is_told((3, ((0, 2), (1, 2))), False)
        self.is_told((4, ((0, 2), (1, 2), (2, 3))), False)
        self.is_told((4, ((0, 1), (1, 3), (2, 3))), False)

    def test_a_knot_that_is_no_one(self):
        self.is_told((3, ((0, 1), (0, 2))), False)
        self.is_told((4, ((0, 1), (0, 2), (2, 3))), False)
        self.is_told((4, ((0, 1), (1, 2), (1, 3))), False)

    def test_a_knot_without_ties(self):
        self.is_told((3, ((0, 1),)), False)
        self.is_told((3, ((0, 2),)), False)
        self.is_told((3, ((1, 2),)), False)
        self.is_told((25, chain(24)[1]), False)

    def test_one_tie_left_out(self):
        for web in [LEAST, chain(3), chain(25)]:
            for at in range(len(web[1])):
                self.is_told((web[0], web[1][:at] + web[1][at + 1:]), False)
        told = [is_web((4, BRIDGE[1][:at] + BRIDGE[1][at + 1:])) for at in range(5)]
        self.assertEqual(told, [False, True, True, True, False])

    def test_a_tuple_made_a_list(self):
        for web in [LEAST, PAST, UNLIKE_WEB]:
            self.is_told(list(web), False)
            self.is_told((web[0], list(web[1])), False)
            for at, tie in enumerate(web[1]):
                self.is_told((web[0], replaced(web[1], at, list(tie))), False)

    def test_a_part_left_out_or_one_more(self):
        for web in [LEAST, PAST]:
            many, ties = web
            for thing in [(many,), (ties,), (ties, many), (many, ties, ties), (many, ties, None), (many, ties, ()),
                          (many, many, ties), (many,) + ties, (many, web), (web,), (web, web)]:
                self.is_told(thing, False)
            for at, tie in enumerate(ties):
                for part in [(), tie[:1], tie[1:], tie + tie, tie + (None,), tie + (many,), (tie,)]:
                    self.is_told((many, replaced(ties, at, part)), False)

    def test_truths_in_place_of_numbers(self):
        self.is_told((2, ((False, 1),)), False)
        self.is_told((2, ((0, True),)), False)
        self.is_told((2, ((False, True),)), False)
        self.is_told((True, ((0, 1),)), False)
        self.is_told((False, ()), False)
        self.is_told((3, ((0, 1), (True, 2))), False)

    def test_other_things_at_each_depth(self):
        others = [None, True, False, "", "0", "2", "ab", "01", [], (), [0], [0, 1], ["0", "1"], ("0", "1"), (None, 1),
                  (0, None), deep(0, tuple_of, 5), deep(0, list_of, 5), deep((0, 1), tuple_of, 4)]
        for other in others:
            self.is_told((other, PAST[1]), False)
            self.is_told((3, other), False)
            for at, tie in enumerate(PAST[1]):
                self.is_told((3, replaced(PAST[1], at, other)), False)
                for place in range(2):
                    self.is_told((3, replaced(PAST[1], at, replaced(tie, place, other))), False)

    def test_a_number_in_place_of_a_part(self):
        for number in [0, 1, 2, 3]:
            self.is_told((3, number), False)
            for at in range(3):
                self.is_told((3, replaced(PAST[1], at, number)), False)

    def test_things_that_are_no_webs(self):
        things = OTHER_THINGS + CUTS + [tuple(cut) for cut in CUTS] + [touching_of(cut) for cut in CUTS]
        for thing in things + [full_streams(web) for web in WEBS]:
            self.is_told(thing, False)

    def test_nothing_is_changed_and_the_answer_stays(self):
        for thing in OTHER_THINGS + WEBS + [list(PAST), (3, list(PAST[1]))]:
            before = copy.deepcopy(thing)
            first = is_web(thing)
            self.assertIs(is_web(thing), first)
            self.assertEqual(repr(thing), repr(before))


class WebOfTest(unittest.TestCase):
    def test_cuts(self):
        self.assertEqual(web_of(touching_of(ONE)), LEAST)
        self.assertEqual(web_of(touching=touching_of(THREE)), PAST)
        self.assertEqual(web_of(touching_of(UNLIKE)), UNLIKE_WEB)
        self.assertEqual(web_of(touching_of(row(24))), bundle(24))
        self.assertEqual(web_of(touching_of(column(24))), chain(25))
        self.assertEqual(web_of(touching_of(FOUR_AT_A_SPOT)), (3, ((0, 1), (0, 1), (1, 2), (1, 2))))
        self.assertEqual(web_of(touching_of(TWO_LINES_AT_ONE_HEIGHT)), (4, ((0, 1), (0, 3), (0, 2), (1, 3), (2, 3))))

    def test_the_ties_are_in_the_order_of_the_squares_numbers(self):
        self.assertEqual(web_of((((), (2, 0)), ((0,), (1,)), ((2, 1), ()))), (3, ((0, 1), (1, 2), (0, 2))))
        self.assertEqual(web_of((((), (1, 2)), ((2,), (0,)), ((0, 1), ()))), (3, ((1, 2), (0, 2), (0, 1))))

    def test_a_touching_of_no_cut(self):
        self.assertEqual(web_of((((), (0, 1)), ((0,), (2, 3)), ((1, 2), (4,)), ((3, 4), ()))), BRIDGE)

    def test_the_kinds_of_the_answer(self):
        many, ties = web_of(touching_of(UNLIKE))
        self.assertIs(type(many), int)
        self.assertIs(type(ties), tuple)
        for tie in ties:
            self.assertEqual([type(tie), type(tie[0]), type(tie[1])], [tuple, int, int])

    def test_beyond_the_bounds(self):
        self.assertEqual(web_of(touching_of(row(26))), bundle(26))
        self.assertEqual(web_of(touching_of(column(26))), chain(27))


class FullStreamsTest(unittest.TestCase):
    def test_webs_worked_out_by_hand(self):
        self.assertEqual(full_streams(LEAST), ((1, 0), (1,)))
        self.assertEqual(full_streams(web=PAST), ((2, 1, 0), (2, 1, 1)))
        self.assertEqual(full_streams(BRIDGE), ((8, 4, 4, 0), (4, 4, 0, 4, 4)))
        self.assertEqual(full_streams(UPWARD), ((11, 6, 7, 0), (5, 4, 4, -1, 6, 7)))
        self.assertEqual(full_streams((3, ((0, 1), (0, 1), (1, 2), (1, 2)))), ((4, 2, 0), (2, 2, 2, 2)))
        self.assertEqual(full_streams((3, ((1, 2), (0, 1), (0, 1)))), ((3, 2, 0), (2, 1, 1)))

    def test_at_the_bounds(self):
        self.assertEqual(full_streams(bundle(40)), ((1, 0), (1,) * 40))
        self.assertEqual(full_streams(chain(25)), (tuple(range(24, -1, -1)), (1,) * 24))
        # Each doubled stretch has half the fall of a single one: 65536 = 2 ** 16 trees.
        heights, sizes = full_streams(doubled_chain())
        self.assertEqual(heights[16:], tuple(65536 * at for at in range(8, -1, -1)))
        self.assertEqual(heights[:17], tuple(65536 * 8 + 32768 * at for at in range(16, -1, -1)))
        self.assertEqual(sizes, (32768,) * 32 + (65536,) * 8)

    def test_all_knots_tied(self):
        # Of nine knots: 9 ** 7 trees, in 2 of 9 of which there is any one tie; all other knots lie halfway.
        heights, sizes = full_streams(all_tied(9))
        self.assertEqual(heights, (2 * 9 ** 6,) + (9 ** 6,) * 7 + (0,))
        self.assertEqual(sizes[:8], (9 ** 6,) * 7 + (2 * 9 ** 6,))

    def test_the_width_counts_the_trees(self):
        for web in WEBS + small_webs():
            sizes = full_streams(web)[1]
            self.assertEqual(width_at_first(web, sizes), trees(web))
            self.assertEqual(width_at_last(web, sizes), trees(web))

    def test_they_check_by_their_sums(self):
        for web in WEBS + small_webs():
            heights, sizes = full_streams(web)
            self.assertEqual((len(heights), len(sizes)), (web[0], len(web[1])))
            self.assertTrue(are_streams_by_the_words(web, heights, sizes), web)
            self.assertIs(are_streams(web, (heights, sizes)), True)

    def test_the_height_of_knot_0(self):
        for web in small_webs() + [UPWARD, UNLIKE_WEB]:
            self.assertEqual(full_streams(web)[0][0], trees_with_ends_made_one(web), web)

    def test_the_order_of_the_ties(self):
        for web in small_webs():
            turned_round = (web[0], web[1][::-1])
            heights, sizes = full_streams(web)
            self.assertEqual(full_streams(turned_round), (heights, sizes[::-1]))

    def test_the_kinds_of_the_answer(self):
        for ask in [full_streams, low_streams]:
            for web in WEBS:
                told = ask(web)
                self.assertEqual([type(told), type(told[0]), type(told[1])], [tuple, tuple, tuple])
                self.assertEqual({type(number) for part in told for number in part}, {int})

    def test_beyond_the_bounds(self):
        self.assertEqual(full_streams(bundle(42)), ((1, 0), (1,) * 42))
        self.assertEqual(full_streams(chain(27)), (tuple(range(26, -1, -1)), (1,) * 26))
        self.assertEqual(low_streams(chain(27)), full_streams(chain(27)))
        self.assertEqual(trees(all_tied(12)), 12 ** 10)


class LowStreamsTest(unittest.TestCase):
    def test_webs_worked_out_by_hand(self):
        self.assertEqual(low_streams(LEAST), ((1, 0), (1,)))
        self.assertEqual(low_streams(web=PAST), ((2, 1, 0), (2, 1, 1)))
        self.assertEqual(low_streams(BRIDGE), ((2, 1, 1, 0), (1, 1, 0, 1, 1)))
        self.assertEqual(low_streams(UPWARD), ((11, 6, 7, 0), (5, 4, 4, -1, 6, 7)))
        # The size below nought goes last.
        self.assertEqual(low_streams((4, ((0, 1), (0, 2), (0, 2), (1, 3), (2, 3), (1, 2)))),
                         ((11, 6, 7, 0), (5, 4, 4, 6, 7, -1)))
        self.assertEqual(low_streams((3, ((0, 1), (0, 1), (1, 2), (1, 2)))), ((2, 1, 0), (1, 1, 1, 1)))
        self.assertEqual(low_streams(UNLIKE_WEB), ((32, 17, 14, 10, 9, 0), (18, 15, 7, 8, 14, 4, 10, 1, 9)))

    def test_at_the_bounds(self):
        self.assertEqual(low_streams(bundle(40)), ((1, 0), (1,) * 40))
        self.assertEqual(low_streams(chain(25)), (tuple(range(24, -1, -1)), (1,) * 24))
        heights = tuple(range(32, 15, -1)) + tuple(range(14, -1, -2))
        self.assertEqual(low_streams(doubled_chain()), (heights, (1,) * 32 + (2,) * 8))
        self.assertEqual(low_streams(all_tied(9))[0], (2,) + (1,) * 7 + (0,))

    def test_they_are_the_full_ones_divided(self):
        for web in WEBS + small_webs():
            low = low_streams(web)
            full = full_streams(web)
            divisor = full[0][0] // low[0][0]
            self.assertGreaterEqual(divisor, 1)
            self.assertEqual(times(low, divisor), full)
            numbers = [abs(number) for part in low for number in part]
            for factor in range(2, max(numbers) + 1 if max(numbers) < 1000 else 100):
                self.assertTrue(any(number % factor for number in numbers), (web, factor))

    def test_they_are_the_only_ones(self):
        # All streams of small heights are whole times the low ones.
        for web in small_webs():
            low = low_streams(web)
            for heights in itertools.product(range(-3, 4), repeat=web[0] - 1):
                streams = by_heights(web, heights + (0,))
                are_times = any(streams == times(low, factor) for factor in range(-3, 4))
                self.assertIs(are_streams(web, streams), are_times, (web, heights))

    def test_the_web_of_a_cut(self):
        for cut in CUTS + small_fillings():
            sizes = low_streams(web_of(touching_of(cut)))[1]
            factor = cut[0][2] // sizes[0]
            self.assertEqual([size * factor for size in sizes], [side for left, top, side in cut])


class TreesTest(unittest.TestCase):
    def test_webs_worked_out_by_hand(self):
        self.assertEqual(trees(LEAST), 1)
        self.assertEqual(trees(web=PAST), 3)
        self.assertEqual(trees(BRIDGE), 8)
        self.assertEqual(trees(UPWARD), 13)
        self.assertEqual(trees(all_tied(3)), 3)
        self.assertEqual(trees(all_tied(4)), 16)

    def test_at_the_bounds(self):
        for ties in range(1, 41):
            self.assertEqual(trees(bundle(ties)), ties)
        for many in range(2, 26):
            self.assertEqual(trees(chain(many)), 1)
        self.assertEqual(trees(doubled_chain()), 65536)
        self.assertEqual(trees(all_tied(9)), 9 ** 7)

    def test_webs_by_trying(self):
        for web in small_webs() + [UPWARD, UNLIKE_WEB, all_tied(5)]:
            self.assertEqual(trees(web), trees_by_trying(list(range(web[0])), web[1]), web)

    def test_the_kind_of_the_answer(self):
        for web in WEBS:
            self.assertIs(type(trees(web)), int)


class AreStreamsTest(unittest.TestCase):
    def is_told(self, web, thing, told):
        self.assertIs(are_streams(web, thing), told, (web, thing))

    def test_streams_worked_out_by_hand(self):
        self.is_told(LEAST, ((1, 0), (1,)), True)
        self.is_told(LEAST, ((7, 0), (7,)), True)
        self.is_told(LEAST, ((-7, 0), (-7,)), True)
        self.is_told(PAST, ((2, 1, 0), (2, 1, 1)), True)
        self.is_told(BRIDGE, ((2, 1, 1, 0), (1, 1, 0, 1, 1)), True)
        self.is_told(UPWARD, ((11, 6, 7, 0), (5, 4, 4, -1, 6, 7)), True)
        self.assertIs(are_streams(web=PAST, thing=((2, 1, 0), (2, 1, 1))), True)
        self.assertIs(are_streams(thing=((2, 1, 0), (2, 1, 1)), web=LEAST), False)

    def test_all_noughts_and_times_others(self):
        for web in WEBS:
            low = low_streams(web)
            for factor in [-10 ** 30, -2, -1, 0, 1, 2, 3, 10 ** 30]:
                self.is_told(web, times(low, factor), True)

    def test_at_the_bounds(self):
        self.is_told(bundle(40), ((5, 0), (5,) * 40), True)
        self.is_told(bundle(40), ((5, 0), (5,) * 39), False)
        self.is_told(bundle(40), ((5, 0), (5,) * 41), False)
        self.is_told(bundle(40), ((5, 0), (5,) * 39 + (4,)), False)
        heights = tuple(range(24, -1, -1))
        self.is_told(chain(25), (heights, (1,) * 24), True)
        self.is_told(chain(25), (heights[1:], (1,) * 23), False)
        self.is_told(chain(25), ((25,) + heights, (1,) * 25), False)

    def test_the_last_height_is_not_nought(self):
        self.is_told(LEAST, ((2, 1), (1,)), False)
        self.is_told(LEAST, ((0, -1), (1,)), False)
        self.is_told(LEAST, ((1, 1), (0,)), False)
        self.is_told(PAST, ((3, 2, 1), (2, 1, 1)), False)
        for web in WEBS:
            heights, sizes = full_streams(web)
            self.is_told(web, (tuple(height + 1 for height in heights), sizes), False)

    def test_a_size_that_is_not_the_fall(self):
        self.is_told(LEAST, ((1, 0), (2,)), False)
        self.is_told(LEAST, ((1, 0), (-1,)), False)
        for web in WEBS:
            heights, sizes = low_streams(web)
            for at in range(len(sizes)):
                self.is_told(web, (heights, replaced(sizes, at, sizes[at] + 1)), False)
                self.is_told(web, (heights, replaced(sizes, at, sizes[at] - 1)), False)
        # The sums come out, but the sizes are not those of the heights.
        self.is_told(PAST, ((2, 1, 0), (5, 1, 1)), False)
        self.is_told(PAST, ((2, 1, 0), (2, 2, 2)), False)
        self.is_told(bundle(2), ((1, 0), (2, 0)), False)

    def test_sums_that_do_not_come_out(self):
        for web in WEBS:
            heights = low_streams(web)[0]
            for at in range(1, web[0] - 1):
                for change in [-1, 1]:
                    self.is_told(web, by_heights(web, replaced(heights, at, heights[at] + change)), False)
        self.is_told(PAST, ((3, 1, 0), (3, 2, 1)), False)
        self.is_told(chain(25), by_heights(chain(25), (25,) + tuple(range(23, -1, -1))), False)
        # At the last knot but one alone, and at the first one after 0 alone.
        self.is_told(chain(4), ((5, 4, 3, 0), (1, 1, 3)), False)
        self.is_told(chain(4), ((5, 2, 1, 0), (3, 1, 1)), False)

    def test_all_small_ones(self):
        for web in [PAST, BRIDGE, chain(4)]:
            for heights in itertools.product(range(-2, 5), repeat=web[0] - 1):
                streams = by_heights(web, heights + (0,))
                self.is_told(web, streams, are_streams_by_the_words(web, *streams))

    def test_too_many_or_too_few_numbers(self):
        for web in WEBS:
            heights, sizes = low_streams(web)
            for thing in [((), ()), (heights, ()), ((), sizes), (heights[:-1], sizes), (heights[1:], sizes),
                          (heights + (0,), sizes), ((0,) + heights, sizes), (heights, sizes[:-1]),
                          (heights, sizes[1:]), (heights, sizes + (0,)), (heights, (0,) + sizes)]:
                self.is_told(web, thing, False)

    def test_a_part_left_out_or_one_more(self):
        for web in WEBS:
            heights, sizes = low_streams(web)
            for thing in [(heights,), (sizes,), heights, sizes, heights + sizes, (sizes, heights),
                          (heights, sizes, sizes), (heights, sizes, None), (heights, sizes, ()), (web, heights, sizes),
                          ((heights, sizes),), web, (web, web)]:
                self.is_told(web, thing, False)

    def test_a_tuple_made_a_list(self):
        for web in WEBS:
            heights, sizes = low_streams(web)
            for thing in [[heights, sizes], (list(heights), sizes), (heights, list(sizes))]:
                self.is_told(web, thing, False)

    def test_truths_in_place_of_numbers(self):
        self.is_told(LEAST, ((True, 0), (1,)), False)
        self.is_told(LEAST, ((1, False), (1,)), False)
        self.is_told(LEAST, ((1, 0), (True,)), False)
        self.is_told(LEAST, ((False, False), (False,)), False)
        self.is_told(PAST, ((2, True, 0), (2, 1, 1)), False)
        self.is_told(PAST, ((2, 1, 0), (2, 1, True)), False)

    def test_other_things_at_each_depth(self):
        others = [None, True, False, "", "0", "210", [], (), [0], (0,), [2, 1, 0], ("2", "1", "0"), (None, None, None),
                  deep(0, tuple_of, 5), deep(0, list_of, 5)]
        streams = low_streams(PAST)
        for other in others:
            self.is_told(PAST, other, False)
            self.is_told(PAST, (other, other), False)
            for side in range(2):
                self.is_told(PAST, replaced(streams, side, other), False)
                for at in range(3):
                    self.is_told(PAST, replaced(streams, side, replaced(streams[side], at, other)), False)

    def test_a_number_in_place_of_a_part(self):
        for number in [0, 1, 2, 10 ** 40 - 1]:
            self.is_told(LEAST, number, False)
            self.is_told(LEAST, (number, (1,)), False)
            self.is_told(LEAST, ((1, 0), number), False)
            self.is_told(LEAST, (number, number), False)

    def test_great_numbers(self):
        great = 10 ** 40 - 1
        self.is_told(LEAST, ((great, 0), (great,)), True)
        self.is_told(LEAST, ((great, 0), (great - 1,)), False)
        self.is_told(LEAST, ((0, great), (-great,)), False)

    def test_things_that_are_no_streams(self):
        for web in WEBS:
            for thing in OTHER_THINGS + CUTS + [touching_of(cut) for cut in CUTS]:
                self.is_told(web, thing, False)

    def test_streams_of_another_web(self):
        self.is_told(bundle(2), full_streams(bundle(3)), False)
        self.is_told(chain(3), full_streams(chain(4)), False)
        self.is_told((3, ((0, 1), (1, 2), (0, 2))), ((2, 1, 0), (2, 1, 1)), False)
        self.is_told((3, ((0, 1), (1, 2), (0, 2))), ((2, 1, 0), (1, 1, 2)), True)

    def test_nothing_is_changed_and_the_answer_stays(self):
        for thing in OTHER_THINGS + [full_streams(web) for web in WEBS] + [([2, 1, 0], [2, 1, 1])]:
            before = copy.deepcopy(thing)
            first = are_streams(PAST, thing)
            self.assertIs(are_streams(PAST, thing), first)
            self.assertEqual(repr(thing), repr(before))


class AskedAgainTest(unittest.TestCase):
    def test_the_answers_stay(self):
        for ask in [full_streams, low_streams, trees]:
            first = [ask(web) for web in WEBS]
            self.assertEqual([ask(web) for web in reversed(WEBS)], first[::-1])
        touchings = [touching_of(cut) for cut in CUTS]
        self.assertEqual([web_of(touching) for touching in touchings], [web_of(touching) for touching in touchings])


if __name__ == "__main__":
    unittest.main()
