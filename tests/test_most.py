"""Promises [1], [2] and [11]: the most that comes to an end, and the worths that show it."""

import unittest
from fractions import Fraction

from gainroads.most import cut_sum, cut_ties, most, most_worths, shows_most
from helpers import (JUNK, Dice, as_fraction, as_pair, check_own, corner_streams, fraction_ok, frozen, great_net,
                     keeps_ok, left_over, some_keeping, some_net, two_places, variants, worths_ok)

GAINS = [(1, 2), (1, 1), (2, 1), (3, 4), (60, 59), (4, 3), (2, 3)]


def tie(begin, end, most, gain, price=(0, 1)):
    return (begin, end, most, gain, price)


PLAIN = (("a", "b", "c"), (tie("a", "b", (4, 1), (1, 2)), tie("b", "c", (3, 1), (2, 1)), tie("a", "c", (1, 3), (1, 1))))


def lifted(net, worths, number):
    begin, end, most, gain, price = net[1][number]
    at = dict(zip(net[0], worths))
    return as_fraction(gain) * as_fraction(at[end]) - as_fraction(at[begin])


def cut_total(net, worths):
    return sum((max(lifted(net, worths, number), 0) * as_fraction(tie[2]) for number, tie in enumerate(net[1])),
               Fraction(0))


def shows_ok(net, begin, end, stream, worths):
    """The document's words once more."""
    if not keeps_ok(net, begin, end, stream) or not worths_ok(net, worths):
        return False
    return (worths[net[0].index(begin)] == (0, 1) and worths[net[0].index(end)] == (1, 1)
            and left_over(net, stream, end) == cut_total(net, worths))


class Mosts(unittest.TestCase):

    def is_most(self, net, begin, end):
        """The value, of which the stream, the worths and the checker all say that it's the most."""
        told = most(net, begin, end)
        self.assertIs(type(told), tuple)
        value, stream = told
        self.assertTrue(fraction_ok(value) and keeps_ok(net, begin, end, stream))
        self.assertEqual(left_over(net, stream, end), as_fraction(value))
        worths = most_worths(net, begin, end)
        self.assertTrue(worths_ok(net, worths))
        self.assertEqual((worths[net[0].index(begin)], worths[net[0].index(end)]), ((0, 1), (1, 1)))
        self.assertEqual(cut_total(net, worths), as_fraction(value))
        self.assertEqual(cut_sum(net, worths), value)
        self.assertIs(shows_most(net, begin, end, stream, worths), True)
        for number, (goes, some) in enumerate(zip(stream, net[1])):
            if lifted(net, worths, number) > 0:
                self.assertEqual(goes, some[2])
            if lifted(net, worths, number) < 0:
                self.assertEqual(goes, (0, 1))
        return value


class ByHand(Mosts):

    def test_plain(self):
        self.assertEqual(self.is_most(PLAIN, "a", "c"), (13, 3))
        self.assertEqual(most(PLAIN, "a", "c"), ((13, 3), [(4, 1), (2, 1), (1, 3)]))
        self.assertEqual(self.is_most(PLAIN, "a", "b"), (2, 1))
        self.assertEqual(self.is_most(PLAIN, "b", "c"), (6, 1))
        self.assertEqual(self.is_most(PLAIN, "c", "a"), (0, 1))

    def test_without_ties(self):
        for places in (("a", "b"), tuple("abcdefghij")):
            self.assertEqual(self.is_most((places, ()), "a", "b"), (0, 1))
            self.assertEqual(most((places, ()), "a", "b"), ((0, 1), []))

    def test_no_way_joins_begin_and_end(self):
        net = (("a", "b", "c", "d"), (tie("b", "a", (3, 1), (2, 1)), tie("a", "c", (3, 1), (2, 1)),
                                      tie("d", "b", (3, 1), (2, 1))))
        self.assertEqual(self.is_most(net, "a", "b"), (0, 1))

    def test_mosts_of_nought(self):
        net = (("a", "b", "c"), (tie("a", "b", (0, 1), (60, 1)), tie("a", "c", (5, 1), (1, 1)),
                                 tie("c", "b", (0, 1), (1, 1))))
        self.assertEqual(self.is_most(net, "a", "b"), (0, 1))
        self.assertEqual(self.is_most(net, "a", "c"), (5, 1))

    def test_several_ties_between_the_same_two(self):
        net = (("a", "b", "c"), (tie("a", "b", (1, 2), (1, 3)), tie("a", "b", (2, 1), (3, 1)),
                                 tie("b", "c", (1, 1), (5, 1)), tie("b", "c", (9, 2), (1, 60)),
                                 tie("b", "c", (0, 1), (9, 1))))
        self.assertEqual(self.is_most(net, "a", "b"), (37, 6))
        self.assertEqual(self.is_most(net, "a", "c"), (203, 40))

    def test_ways_back_and_ties_at_the_ends(self):
        # What comes into begin and goes out of end is no help, and no harm.
        net = (("a", "b", "c"), (tie("a", "b", (2, 1), (1, 1)), tie("b", "a", (9, 1), (1, 1)),
                                 tie("b", "c", (9, 1), (1, 1)), tie("c", "b", (9, 1), (1, 2)),
                                 tie("c", "a", (9, 1), (1, 1))))
        self.assertEqual(self.is_most(net, "a", "c"), (2, 1))

    def test_a_tie_out_of_end_that_gains(self):
        net = (("a", "b", "c"), (tie("c", "b", (4, 1), (1, 2)), tie("b", "c", (1, 1), (3, 1))))
        self.assertEqual(self.is_most(net, "a", "c"), (1, 1))

    def test_a_round_that_gains_at_begin(self):
        # Nothing is made of it: begin gives as much as is wished anyhow.
        net = (("a", "b", "c"), (tie("a", "b", (2, 1), (3, 1)), tie("b", "a", (9, 1), (1, 1)),
                                 tie("a", "c", (5, 1), (1, 1))))
        self.assertEqual(self.is_most(net, "a", "c"), (5, 1))

    def test_a_round_that_gains_far_from_both(self):
        net = (("a", "b", "c", "d", "e"), (tie("b", "c", (6, 1), (4, 1)), tie("c", "b", (20, 1), (1, 2)),
                                           tie("c", "d", (9, 1), (1, 3)), tie("d", "e", (5, 1), (3, 1))))
        self.assertEqual(self.is_most(net, "a", "e"), (9, 1))
        # Where nothing leads from it to the end it makes nothing that could stay.
        net = (net[0], net[1][:3])
        self.assertEqual(self.is_most(net, "a", "e"), (0, 1))

    def test_rounds_of_gain_just_one_and_below(self):
        for back, expected in (((1, 2), (0, 1)), ((1, 3), (0, 1)), ((60, 119), (1, 119)), ((2, 1), (3, 2))):
            net = (("a", "b", "c"), (tie("b", "c", (1, 1), (2, 1)), tie("c", "b", (1, 1), back)))
            self.assertEqual(self.is_most(net, "a", "c"), expected)

    def test_two_rounds_one_making_one_losing(self):
        # What the one makes the other one may lose; the end's way is narrow.
        net = (("a", "b", "c", "d"), (tie("b", "c", (5, 1), (2, 1)), tie("c", "b", (5, 1), (1, 1)),
                                      tie("b", "d", (1, 7), (3, 1)), tie("d", "b", (9, 1), (1, 60))))
        self.assertEqual(self.is_most(net, "a", "d"), (3, 7))

    def test_a_stream_is_kept_exactly(self):
        net = (("a", "b", "c"), (tie("a", "b", (10 ** 9, 997), (59, 60)), tie("a", "b", (10 ** 9 - 1, 991), (53, 47)),
                                 tie("b", "c", (10 ** 9, 7), (60, 59))))
        value = (Fraction(10 ** 9, 997) * 59 / 60 + Fraction(10 ** 9 - 1, 991) * 53 / 47) * 60 / 59
        self.assertEqual(as_fraction(self.is_most(net, "a", "c")), value)


class Cuts(Mosts):

    def test_cut_ties(self):
        worths = [(0, 1), (1, 1), (1, 1)]
        self.assertEqual(cut_ties(PLAIN, worths), [0, 1, 2])
        self.assertEqual(cut_sum(PLAIN, worths), (16, 3))
        self.assertEqual(cut_ties(PLAIN, [(0, 1), (2, 1), (1, 1)]), [0, 2])
        self.assertEqual(cut_sum(PLAIN, [(0, 1), (2, 1), (1, 1)]), (13, 3))
        self.assertEqual(cut_ties(PLAIN, [(1, 1), (2, 1), (1, 1)]), [])
        self.assertEqual(cut_sum(PLAIN, [(1, 1), (2, 1), (1, 1)]), (0, 1))

    def test_worths_below_nought(self):
        self.assertEqual(cut_ties(PLAIN, [(-1, 1), (-3, 1), (-1, 1)]), [1])
        self.assertEqual(cut_sum(PLAIN, [(-1, 1), (-3, 1), (-1, 1)]), (3, 1))
        self.assertEqual(cut_ties(PLAIN, [(-2, 1), (-3, 1), (-1, 1)]), [0, 1, 2])
        self.assertEqual(cut_sum(PLAIN, [(-2, 1), (-3, 1), (-1, 1)]), (16, 3))

    def test_a_shut_tie_may_be_cut(self):
        net = (("a", "b"), (tie("a", "b", (0, 1), (1, 2)), tie("a", "b", (3, 1), (1, 1))))
        self.assertEqual(cut_ties(net, [(0, 1), (1, 1)]), [0, 1])
        self.assertEqual(cut_sum(net, [(0, 1), (1, 1)]), (3, 1))

    def test_worths_of_any_size(self):
        huge = 10 ** 60
        self.assertEqual(cut_ties(PLAIN, [(huge, 1), (2 * huge + 1, 1), (1, huge)]), [0])
        self.assertEqual(cut_sum(PLAIN, [(huge, 1), (2 * huge + 1, 1), (1, huge)]), (2, 1))
        self.assertEqual(cut_ties(PLAIN, [(1, huge), (2, 1), (1, 1)]), [0, 2])

    def test_without_ties(self):
        self.assertEqual(cut_ties((("a",), ()), [(5, 1)]), [])
        self.assertEqual(cut_sum((("a",), ()), [(5, 1)]), (0, 1))

    def test_by_the_dice(self):
        dice = Dice(31)
        for _ in range(200):
            net = some_net(dice, 10, 24, GAINS)
            worths = [as_pair(Fraction(dice.roll(9) - 4, 1 + dice.roll(5))) for _ in net[0]]
            cut = [number for number in range(len(net[1])) if lifted(net, worths, number) > 0]
            self.assertEqual(frozen(cut_ties(net, worths)), frozen(cut))
            self.assertEqual(frozen(cut_sum(net, worths)), frozen(as_pair(cut_total(net, worths))))


class Shows(Mosts):

    STREAM = [(4, 1), (2, 1), (1, 3)]
    WORTHS = [(0, 1), (2, 1), (1, 1)]

    def shown(self, stream, worths, expected):
        self.assertIs(shows_most(PLAIN, "a", "c", stream, worths), expected, (stream, worths))

    def test_right_ones(self):
        self.shown(self.STREAM, self.WORTHS, True)
        net = (("a", "b", "c"), ())
        for middle in ((0, 1), (-7, 2), (10 ** 50, 3)):
            self.assertIs(shows_most(net, "a", "c", [], [(0, 1), middle, (1, 1)]), True)

    def test_a_little_more_or_less(self):
        hair = Fraction(1, 10 ** 40)
        for at in range(3):
            for by in (hair, -hair):
                stream = list(self.STREAM)
                stream[at] = as_pair(as_fraction(stream[at]) + by)
                self.shown(stream, self.WORTHS, False)
                worths = list(self.WORTHS)
                worths[at] = as_pair(as_fraction(worths[at]) + by)
                self.shown(self.STREAM, worths, False)
        less = [as_pair(as_fraction(much) * (1 - hair)) for much in self.STREAM]
        self.assertTrue(keeps_ok(PLAIN, "a", "c", less))
        self.shown(less, self.WORTHS, False)

    def test_worths_that_show_nothing(self):
        for worths in ([(0, 1), (1, 1), (1, 1)], [(0, 1), (0, 1), (1, 1)], [(0, 1), (-2, 1), (1, 1)]):
            self.shown(self.STREAM, worths, False)

    def test_not_nought_of_begin_or_one_of_end(self):
        net = (("a", "b"), (tie("a", "b", (2, 1), (1, 1)),))
        for stream, worths, expected in (
                ([(2, 1)], [(0, 1), (1, 1)], True), ([(0, 1)], [(1, 1), (1, 1)], False),
                ([(0, 1)], [(0, 1), (0, 1)], False), ([(1, 1)], [(1, 2), (1, 1)], False),
                ([(1, 1)], [(0, 1), (1, 2)], False), ([(2, 1)], [(1, 1), (2, 1)], False),
                ([(2, 1)], [(-1, 1), (0, 1)], False)):
            self.assertIs(shows_most(net, "a", "b", stream, worths), expected, (stream, worths))

    def test_streams_that_do_not_keep(self):
        # Each brings as much as the cut_sum, but not by what keeps.
        for stream in ([(0, 1), (2, 1), (1, 3)], [(3, 1), (2, 1), (1, 3)]):
            self.assertEqual(left_over(PLAIN, stream, "c"), Fraction(13, 3))
            self.shown(stream, self.WORTHS, False)
        # Above a most, and below 0.
        self.shown([(4, 1), (2, 1), (4, 3)], self.WORTHS, False)
        self.shown([(6, 1), (3, 1), (-5, 3)], self.WORTHS, False)

    def test_wrong_things(self):
        for wrong in JUNK:
            self.shown(wrong, self.WORTHS, False)
            self.shown(self.STREAM, wrong, False)
            self.shown(wrong, wrong, False)
        for worths in (self.WORTHS[:2], self.WORTHS + [(1, 1)], tuple(self.WORTHS), [[0, 1], [2, 1], [1, 1]], [0, 2, 1],
                       [(0, 1), (True, 1), (1, 1)], [(False, 1), (2, 1), (1, 1)], [(0, 1), (2, 1), (True, True)],
                       [(0, 1), (2, True), (1, 1)], [(0, 2), (2, 1), (1, 1)], [(0, 1), (4, 2), (1, 1)],
                       [(0, 1), (2, 1), (2, 2)], [(0, 1), ("2", 1), (1, 1)], ["0", "2", "1"], [(0, 1), (2, 1), "1"],
                       [(0, 1), None, (1, 1)], [(0, 1), (2,), (1, 1)], [(0, 1), (2, 1, 1), (1, 1)], [self.WORTHS]):
            self.shown(self.STREAM, worths, False)
        for stream in (self.STREAM[:2], self.STREAM + [(0, 1)], tuple(self.STREAM), [[4, 1], [2, 1], [1, 3]],
                       [(4, True), (2, 1), (1, 3)], [(8, 2), (2, 1), (1, 3)], [4, 2, (1, 3)], [self.STREAM]):
            self.shown(stream, self.WORTHS, False)

    def test_anything(self):
        for stream in variants(self.STREAM):
            self.shown(stream, self.WORTHS, shows_ok(PLAIN, "a", "c", stream, self.WORTHS))
        for worths in variants(self.WORTHS):
            self.shown(self.STREAM, worths, shows_ok(PLAIN, "a", "c", self.STREAM, worths))

    def test_by_the_dice(self):
        dice = Dice(32)
        for _ in range(60):
            net = some_net(dice, 5, 9, GAINS)
            if len(net[0]) < 2:
                continue
            begin, end = two_places(dice, net)
            stream, worths = most(net, begin, end)[1], most_worths(net, begin, end)
            for _ in range(6):
                other = some_keeping(dice, net, begin, end)
                self.assertIs(shows_most(net, begin, end, other, worths), shows_ok(net, begin, end, other, worths))
                some = list(worths)
                some[dice.roll(len(some))] = as_pair(Fraction(dice.roll(7) - 3, 1 + dice.roll(3)))
                self.assertIs(shows_most(net, begin, end, stream, some), shows_ok(net, begin, end, stream, some))


class ByTheDice(Mosts):

    def test_none_of_all_corners_brings_more(self):
        dice = Dice(33)
        seen = {"none": 0, "some": 0}
        for _ in range(120):
            net = some_net(dice, 4, 6, GAINS)
            if len(net[0]) < 2:
                continue
            begin, end = two_places(dice, net)
            value = as_fraction(self.is_most(net, begin, end))
            self.assertEqual(max(left_over(net, stream, end) for stream in corner_streams(net, begin, end)), value)
            seen["some" if value else "none"] += 1
        self.assertGreater(min(seen.values()), 20)

    def test_no_drawn_stream_brings_more(self):
        dice = Dice(34)
        for _ in range(60):
            net = some_net(dice, 8, 20, GAINS)
            if len(net[0]) < 2:
                continue
            begin, end = two_places(dice, net)
            value = as_fraction(self.is_most(net, begin, end))
            worths = [as_pair(Fraction(dice.roll(9) - 2, 1 + dice.roll(3))) for _ in net[0]]
            worths[net[0].index(begin)], worths[net[0].index(end)] = (0, 1), (1, 1)
            self.assertGreaterEqual(as_fraction(cut_sum(net, worths)), value)
            for _ in range(8):
                stream = some_keeping(dice, net, begin, end)
                self.assertTrue(keeps_ok(net, begin, end, stream))
                self.assertLessEqual(left_over(net, stream, end), value)

    def test_great_nets(self):
        dice = Dice(35)
        for _ in range(150):
            net = some_net(dice, 10, 24, GAINS)
            if len(net[0]) > 1:
                self.is_most(net, *two_places(dice, net))

    def test_at_the_bounds(self):
        dice = Dice(36)
        for turn in range(40):
            self.is_most(great_net(dice, 60 if turn % 2 else 40), "a", "j")
        # All ties between two places, and one long way with rounds all along.
        ties = [tie("ab"[at % 2], "ba"[at % 2], as_pair(Fraction(10 ** 9, 1 + at)),
                    as_pair(Fraction(60 - at, 60 - at // 2))) for at in range(24)]
        self.is_most((("a", "b"), tuple(ties)), "a", "b")
        places = tuple("abcdefghij")
        ties = []
        for at in range(9):
            ties += [tie(places[at], places[at + 1], (10 ** 9, 1), (60, 1)),
                     tie(places[at + 1], places[at], (1, 997), (60, 59))]
        self.is_most((places, tuple(ties)), "a", "j")
        self.is_most((places, tuple(ties)), "j", "a")


class Own(Mosts):

    def test_what_is_told_and_handed_in(self):
        dice = Dice(37)
        for net, begin, end in ((PLAIN, "a", "c"), ((("a", "b"), ()), "a", "b"), (great_net(dice), "a", "j")):
            check_own(self, lambda: most(net, begin, end))
            check_own(self, lambda: most_worths(net, begin, end))
            check_own(self, lambda worths: cut_ties(net, worths), most_worths(net, begin, end))
            check_own(self, lambda worths: cut_sum(net, worths), most_worths(net, begin, end))
            check_own(self, lambda stream, worths: shows_most(net, begin, end, stream, worths),
                      most(net, begin, end)[1], most_worths(net, begin, end))


if __name__ == "__main__":
    unittest.main()
