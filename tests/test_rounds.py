"""Promises [2], [7] and [8]: rounds that make from nothing, and the greatest gains without them."""

import unittest

from gainroads.errors import Gaining
from gainroads.rounds import best_way, gaining_round, greatest_gain, holding_worths, shows_holding
from helpers import (Dice, as_fraction, as_pair, fraction_ok, frozen, gain_along, net_ok, open_numbers, round_ok,
                     some_net, variants, way_ok, ways_of)

ALONE = (("a",), ())
APART = (("a", "b", "c"), ())
MILD = [(1, 2), (1, 1), (2, 3), (3, 2), (59, 60), (4, 3), (3, 4)]
# a to b makes 2, b to c 1/3, c to a 3/2: just 1 in all.
EVEN = (("a", "b", "c", "d"), (
    ("a", "b", (1, 1), (2, 1), (0, 1)),
    ("b", "c", (1, 1), (1, 3), (0, 1)),
    ("c", "a", (1, 1), (3, 2), (0, 1)),
    ("d", "a", (1, 7), (1, 5), (0, 1)),
    ("a", "b", (0, 1), (60, 1), (0, 1)),
))


def tie(begin, end, gain, most=(1, 1)):
    return (begin, end, most, as_pair(as_fraction(gain)), (0, 1))


def long_round(back, most=(1, 1)):
    """A round through ten places that makes 60/51 up to the last tie; with 24 ties, the others of it losing."""
    places = tuple("abcdefghij")
    ties = [tie(places[at], places[at + 1], (60 - at, 59 - at)) for at in range(9)]
    ties.append(tie("j", "a", back, most))
    ties += [tie(places[at], places[(at + 3) % 10], (1, 60)) for at in range(10)]
    ties += [tie("a", "b", (60, 1), (0, 1)), tie("c", "b", (57, 58)), tie("j", "i", (1, 60)), tie("b", "a", (58, 60))]
    return (places, tuple(ties))


class Rounds(unittest.TestCase):

    def gains(self, net, ties):
        """Whether these are a round of open ties of a gain above 1."""
        return (round_ok(net, ties) and all(net[1][number][2] != (0, 1) for number in ties)
                and gain_along(net, ties) > 1)

    def refused(self, net, ask):
        with self.assertRaises(Gaining) as caught:
            ask()
        self.assertIs(type(caught.exception), Gaining)
        self.assertTrue(self.gains(net, caught.exception.ties))
        return caught.exception.ties

    def is_gaining(self, net):
        self.assertTrue(net_ok(net))
        self.assertTrue(self.gains(net, gaining_round(net)))
        self.refused(net, lambda: holding_worths(net))
        for begin in net[0]:
            for end in net[0]:
                if begin != end:
                    self.refused(net, lambda: greatest_gain(net, begin, end))
                    self.refused(net, lambda: best_way(net, begin, end))

    def is_holding(self, net):
        self.assertTrue(net_ok(net))
        self.assertIsNone(gaining_round(net))
        worths = holding_worths(net)
        self.assertIs(type(worths), list)
        self.assertIs(shows_holding(net, worths), True)
        return worths


class GainingRound(Rounds):

    def test_just_one(self):
        self.is_holding(EVEN)

    def test_a_hair_more_and_less(self):
        for number in (0, 1, 2):
            begin, end, most, gain, price = EVEN[1][number]
            for step, ask in ((1, self.is_gaining), (-1, self.is_holding)):
                ties = list(EVEN[1])
                ties[number] = tie(begin, end, (gain[0] * 10 ** 9 + step, gain[1] * 10 ** 9))
                ask((EVEN[0], tuple(ties)))

    def test_at_the_bounds(self):
        self.is_holding(long_round((17, 20)))
        self.is_holding(long_round((45, 53)))
        self.is_gaining(long_round((40, 47)))
        self.is_gaining(long_round((60, 1)))
        self.is_holding(long_round((60, 1), (0, 1)))
        self.assertEqual(len(long_round((1, 1))[1]), 24)

    def test_many_figures(self):
        near = 10 ** 300
        there = tie("a", "b", (near + 1, near))
        self.is_holding((("a", "b"), (there, tie("b", "a", (near, near + 1)))))
        self.is_gaining((("a", "b"), (there, tie("b", "a", (near - 1, near)), tie("b", "a", (near + 1, near + 2)))))
        self.is_holding((("a", "b"), (there, tie("b", "a", (near - 1, near)))))

    def test_shut_ties(self):
        places = ("a", "b")
        for there, back, ask in (((1, 1), (1, 1), self.is_gaining), ((0, 1), (1, 1), self.is_holding),
                                 ((1, 1), (0, 1), self.is_holding), ((1, 1000), (1, 10 ** 9), self.is_gaining)):
            ask((places, (tie("a", "b", (3, 1), there), tie("b", "a", (1, 2), back))))

    def test_several_ties_between_the_same_two(self):
        ties = (tie("a", "b", (1, 2)), tie("a", "b", (3, 1)), tie("b", "a", (1, 4)), tie("b", "a", (1, 3)),
                tie("a", "b", (1, 1)))
        self.is_holding((("a", "b"), ties))
        self.is_gaining((("a", "b"), ties + (tie("b", "a", (2, 5)),)))

    def test_without_ties(self):
        for net in (ALONE, APART):
            self.assertIsNone(gaining_round(net))
            self.assertEqual(holding_worths(net), [(1, 1)] * len(net[0]))

    def test_a_way_that_gains_is_no_round(self):
        places = tuple("abcdefghij")
        ties = tuple(tie(places[at], places[at + 1], (60, 1)) for at in range(9))
        for order in (ties, ties[::-1]):
            worths = self.is_holding((places, order))
            self.assertEqual(worths, [(60 ** (9 - at), 1) for at in range(10)])

    def test_a_round_that_gains_far_off(self):
        net = (("a", "b", "c", "d", "e"), (tie("a", "b", (1, 1)), tie("c", "d", (2, 1)), tie("d", "c", (3, 5))))
        self.is_gaining(net)

    def test_two_rounds_that_share_a_place(self):
        ties = (tie("a", "b", (2, 1)), tie("b", "a", (1, 3)), tie("b", "c", (3, 1)), tie("c", "b", (2, 5)))
        self.is_gaining((("a", "b", "c"), ties))

    def test_told_rounds_are_the_askers_own(self):
        net = long_round((40, 47))
        before = gaining_round(net)
        gaining_round(net).append(3)
        self.assertEqual(gaining_round(net), before)
        told = self.refused(net, lambda: holding_worths(net))
        again = list(told)
        told.clear()
        self.assertEqual(self.refused(net, lambda: holding_worths(net)), again)


class Worths(Rounds):

    def test_holding_worths(self):
        self.assertEqual(holding_worths(EVEN), [(2, 1), (1, 1), (3, 1), (1, 1)])
        net = (("a", "b", "c"), (tie("a", "b", (1, 2)), tie("b", "c", (3, 1)), tie("c", "b", (1, 4)),
                                 tie("a", "c", (60, 1), (0, 1))))
        self.assertEqual(holding_worths(net), [(3, 2), (3, 1), (1, 1)])

    def test_told_worths_are_the_askers_own(self):
        told = holding_worths(EVEN)
        told[0] = (9, 1)
        self.assertEqual(holding_worths(EVEN), [(2, 1), (1, 1), (3, 1), (1, 1)])

    def test_shows_holding(self):
        for worths in ([(2, 1), (1, 1), (3, 1), (1, 1)], [(2, 1), (1, 1), (3, 1), (2, 5)],
                       [(2, 10 ** 60), (1, 10 ** 60), (3, 10 ** 60), (1, 1)],
                       [(2 * 10 ** 60, 1), (10 ** 60, 1), (3 * 10 ** 60, 1), (10 ** 60, 1)]):
            worths = [as_pair(as_fraction(worth)) for worth in worths]
            self.assertIs(shows_holding(EVEN, worths), True, worths)

    def test_a_little_too_much(self):
        for worths in ([(2, 1), (1, 1), (3, 1), (399, 1000)], [(2, 1), (10 ** 9 + 1, 10 ** 9), (3, 1), (1, 1)],
                       [(1, 1), (1, 1), (1, 1), (1, 1)], [(2, 1), (1, 1), (31, 10), (1, 1)],
                       [(2, 1), (1, 1), (29, 10), (1, 1)]):
            self.assertIs(shows_holding(EVEN, worths), False, worths)

    def test_a_shut_tie_holds_ever(self):
        net = (("a", "b"), (tie("a", "b", (60, 1), (0, 1)),))
        self.assertIs(shows_holding(net, [(1, 1000), (1000, 1)]), True)
        net = (("a", "b"), (tie("a", "b", (60, 1), (1, 1000)),))
        self.assertIs(shows_holding(net, [(1, 1000), (1000, 1)]), False)
        self.assertIs(shows_holding(net, [(60, 1), (1, 1)]), True)

    def test_wrong_things(self):
        for part in ((0, 1), (-1, 1), (2, 4), (10, 10), (1, 0), (1, -1), (True, 1), (1, True), [1, 1], "1", 1, True,
                     None, (1,), (1, 1, 1), ((1, 1), (1, 1)), ("1", "1")):
            for at in range(3):
                worths = [(1, 1)] * 3
                worths[at] = part
                self.assertIs(shows_holding(APART, worths), False, part)
        for thing in ([(1, 1)] * 2, [(1, 1)] * 4, ((1, 1),) * 3, [], None, True, "abc", 3, [[(1, 1)] * 3]):
            self.assertIs(shows_holding(APART, thing), False, thing)

    def test_anything(self):
        net = (("a", "b"), (tie("a", "b", (1, 2)), tie("b", "a", (60, 1), (0, 1))))
        for thing in variants([(1, 2), (1, 1)]):
            right = (type(thing) is list and len(thing) == 2 and all(fraction_ok(part) for part in thing)
                     and all(part[0] > 0 for part in thing)
                     and as_fraction(thing[1]) / 2 <= as_fraction(thing[0]))
            self.assertIs(shows_holding(net, thing), right, thing)

    def test_none_shows_a_net_with_a_round_that_gains(self):
        net = (("a", "b"), (tie("a", "b", (2, 1)), tie("b", "a", (2, 3))))
        for one in range(1, 20):
            for other in range(1, 20):
                worths = [as_pair(as_fraction((one, 7))), (other, 1)]
                self.assertIs(shows_holding(net, worths), False)

    def test_worths_stay_as_they_were(self):
        worths = [(2, 1), (1, 1), (3, 1), (1, 1)]
        before = frozen(worths)
        for _ in range(2):
            self.assertIs(shows_holding(EVEN, worths), True)
            self.assertEqual(frozen(worths), before)


class Greatest(Rounds):

    def test_greatest_gain(self):
        self.assertEqual(greatest_gain(EVEN, "a", "b"), (2, 1))
        self.assertEqual(greatest_gain(EVEN, "a", "c"), (2, 3))
        self.assertEqual(greatest_gain(EVEN, "b", "a"), (1, 2))
        self.assertEqual(greatest_gain(EVEN, "d", "c"), (2, 15))
        self.assertEqual(best_way(EVEN, "d", "c"), [3, 0, 1])

    def test_a_way_below_one_is_a_way(self):
        net = (("a", "b"), (tie("a", "b", (1, 60)),))
        self.assertEqual(greatest_gain(net, "a", "b"), (1, 60))
        self.assertEqual(best_way(net, "a", "b"), [0])

    def test_a_longer_way_that_gains_more(self):
        net = (("a", "b", "c"), (tie("a", "c", (1, 1)), tie("a", "b", (5, 1)), tie("b", "c", (1, 4)),
                                 tie("a", "c", (9, 8)), tie("a", "c", (2, 1), (0, 1))))
        self.assertEqual(greatest_gain(net, "a", "c"), (5, 4))
        self.assertEqual(best_way(net, "a", "c"), [1, 2])

    def test_places_that_no_way_joins(self):
        for net, begin, end in ((EVEN, "a", "d"), (APART, "a", "c"), ((("a", "b"), (tie("b", "a", (1, 1)),)), "a", "b"),
                                ((("a", "b"), (tie("a", "b", (1, 1), (0, 1)),)), "a", "b")):
            self.assertIsNone(greatest_gain(net, begin, end))
            self.assertIsNone(best_way(net, begin, end))

    def test_told_ways_are_the_askers_own(self):
        best_way(EVEN, "d", "c").clear()
        self.assertEqual(best_way(EVEN, "d", "c"), [3, 0, 1])

    def is_best(self, net, begin, end):
        gain, way = greatest_gain(net, begin, end), best_way(net, begin, end)
        if gain is None:
            self.assertIsNone(way)
            return None
        self.assertTrue(way_ok(net, way) and set(way) <= set(open_numbers(net)))
        self.assertEqual((net[1][way[0]][0], net[1][way[-1]][1]), (begin, end))
        self.assertEqual(as_pair(gain_along(net, way)), gain)
        return gain

    def test_at_the_bounds(self):
        for back in ((17, 20), (45, 53)):
            net = long_round(back)
            worths = self.is_holding(net)
            for at, begin in enumerate(net[0]):
                gains = [self.is_best(net, begin, end) for end in net[0] if end != begin]
                self.assertEqual(max([as_fraction(gain) for gain in gains] + [1]), as_fraction(worths[at]))

    def test_by_the_dice(self):
        dice = Dice(9)
        seen = {"gaining": 0, "holding": 0, "none": 0}
        for _ in range(400):
            net = some_net(dice, 4, 6, MILD)
            ways = list(ways_of(net[1], net[0], open_numbers(net)))
            if any(round_ok(net, way) and gain_along(net, way) > 1 for way in ways):
                self.is_gaining(net)
                seen["gaining"] += 1
                continue
            seen["holding"] += 1
            worths = self.is_holding(net)
            for at, begin in enumerate(net[0]):
                gains = {begin: [1]}
                for way in ways_of(net[1], [begin], open_numbers(net)):
                    if way:
                        gains.setdefault(net[1][way[-1]][1], []).append(gain_along(net, way))
                self.assertEqual(as_fraction(worths[at]), max(max(some) for some in gains.values()))
                for end in net[0]:
                    if end != begin and end in gains:
                        self.assertEqual(as_fraction(self.is_best(net, begin, end)), max(gains[end]))
                    elif end != begin:
                        self.assertIsNone(self.is_best(net, begin, end))
                        seen["none"] += 1
        self.assertGreater(min(seen.values()), 30)

    def test_great_nets_by_the_dice(self):
        dice = Dice(12)
        seen = {True: 0, False: 0}
        for _ in range(300):
            net = some_net(dice, 10, 24, [(1, 2), (1, 3), (2, 3), (59, 60), (1, 60), (1, 1), (3, 2)])
            gaining = gaining_round(net)
            seen[gaining is None] += 1
            if gaining is None:
                self.is_holding(net)
            else:
                self.assertTrue(self.gains(net, gaining))
                self.refused(net, lambda: holding_worths(net))
        self.assertGreater(min(seen.values()), 30)


if __name__ == "__main__":
    unittest.main()
