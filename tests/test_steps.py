"""Promises [1], [2] and [13]: the steps of the price."""

import unittest
from fractions import Fraction

from gainroads.cheapest import cheapest
from gainroads.most import most
from gainroads.steps import next_price, price_steps
from helpers import (Dice, as_fraction, as_pair, check_own, corner_streams, fraction_ok, great_net, left_over,
                     price_along, some_net, two_places)

GAINS = [(1, 2), (1, 1), (2, 1), (3, 4), (60, 59), (4, 3), (2, 3)]
HAIR = Fraction(1, 10 ** 300)


def tie(begin, end, most, gain, price):
    return (begin, end, most, gain, price)


# Three ties for 1/2, 2/3 and 3/4 of each that comes, not in this order.
THREE = (("a", "b"), (tie("a", "b", (1, 1), (4, 1), (3, 1)), tie("a", "b", (1, 1), (2, 1), (1, 1)),
                      tie("a", "b", (1, 1), (1, 2), (1, 3))))


class Steps(unittest.TestCase):

    def are_right(self, net, begin, end):
        """The steps, of which everything that is told of steps holds."""
        steps = price_steps(net, begin, end)
        self.assertIs(type(steps), list)
        for step in steps:
            self.assertTrue(type(step) is tuple and len(step) == 2 and fraction_ok(step[0]) and fraction_ok(step[1]))
            self.assertEqual(cheapest(net, begin, end, step[0])[0], step[1])
        self.assertEqual(steps[0], ((0, 1), (0, 1)))
        self.assertEqual(steps[-1][0], most(net, begin, end)[0])
        known = [(as_fraction(many), as_fraction(price)) for many, price in steps]
        slopes = []
        for (low, cheap), (high, dear) in zip(known, known[1:]):
            self.assertLess(low, high)
            slope = (dear - cheap) / (high - low)
            self.assertTrue(not slopes or slopes[-1] < slope)
            slopes.append(slope)
            for share in (Fraction(1, 3), Fraction(1, 2), 1 - HAIR):
                many = low + (high - low) * share
                self.price_is(net, begin, end, many, cheap + (many - low) * slope)
                self.assertEqual(next_price(net, begin, end, as_pair(many)), as_pair(slope))
            self.assertEqual(next_price(net, begin, end, as_pair(low)), as_pair(slope))
        for many in (known[-1][0], known[-1][0] + HAIR, known[-1][0] * 2 + 1, Fraction(10 ** 60)):
            self.assertIsNone(next_price(net, begin, end, as_pair(many)))
        return steps

    def price_is(self, net, begin, end, many, price):
        self.assertEqual(as_fraction(cheapest(net, begin, end, as_pair(many))[0]), price)


class ByHand(Steps):

    def test_three(self):
        self.assertEqual(self.are_right(THREE, "a", "b"), [
            ((0, 1), (0, 1)), ((2, 1), (1, 1)), ((5, 2), (4, 3)), ((13, 2), (13, 3))])
        for many, price in (((0, 1), (1, 2)), ((1, 1), (1, 2)), ((2, 1), (2, 3)), ((9, 4), (2, 3)), ((5, 2), (3, 4)),
                            ((6, 1), (3, 4)), ((13, 2), None), ((7, 1), None), ((10 ** 99, 7), None)):
            self.assertEqual(next_price(THREE, "a", "b", many), price)
        self.assertEqual(next_price(THREE, "a", "b", as_pair(2 - HAIR)), (1, 2))
        self.assertEqual(next_price(THREE, "a", "b", as_pair(2 + HAIR)), (2, 3))

    def test_a_most_of_nought(self):
        for net in ((("a", "b"), ()), (("a", "b"), (tie("a", "b", (0, 1), (1, 1), (1, 1)),)),
                    (("a", "b"), (tie("b", "a", (1, 1), (1, 1), (0, 1)),)),
                    (("a", "b", "c"), (tie("a", "c", (1, 1), (1, 1), (0, 1)),))):
            self.assertEqual(self.are_right(net, "a", "b"), [((0, 1), (0, 1))])
            self.assertIsNone(next_price(net, "a", "b", (0, 1)))

    def test_prices_of_nought(self):
        net = (("a", "b"), (tie("a", "b", (1, 1), (1, 1), (0, 1)), tie("a", "b", (2, 1), (1, 2), (0, 1))))
        self.assertEqual(self.are_right(net, "a", "b"), [((0, 1), (0, 1)), ((2, 1), (0, 1))])
        self.assertEqual(next_price(net, "a", "b", (0, 1)), (0, 1))
        net = (net[0], net[1] + (tie("a", "b", (1, 3), (1, 1), (5, 1)),))
        self.assertEqual(self.are_right(net, "a", "b"), [((0, 1), (0, 1)), ((2, 1), (0, 1)), ((7, 3), (5, 3))])

    def test_alike_prices_are_one_step(self):
        net = (("a", "b", "c"), (tie("a", "c", (1, 1), (1, 1), (3, 1)), tie("a", "c", (2, 1), (2, 1), (6, 1)),
                                 tie("a", "b", (1, 1), (1, 1), (1, 1)), tie("b", "c", (1, 1), (1, 1), (2, 1))))
        self.assertEqual(self.are_right(net, "a", "c"), [((0, 1), (0, 1)), ((6, 1), (18, 1))])
        net = (net[0], net[1][:3] + (tie("b", "c", (1, 1), (1, 1), (2001, 1000)),))
        self.assertEqual(self.are_right(net, "a", "c"), [((0, 1), (0, 1)), ((5, 1), (15, 1)), ((6, 1), (18001, 1000))])

    def test_ways_that_share_ties(self):
        # For each that comes 2 by b and c, then 3 by b, then 6 by c.
        net = (("a", "b", "c", "d"), (
            tie("a", "b", (2, 1), (1, 1), (1, 1)), tie("b", "c", (1, 1), (1, 1), (1, 1)),
            tie("c", "d", (9, 1), (1, 1), (0, 1)), tie("a", "c", (4, 1), (1, 2), (3, 1)),
            tie("b", "d", (3, 1), (1, 3), (0, 1))))
        self.assertEqual(self.are_right(net, "a", "d"), [
            ((0, 1), (0, 1)), ((1, 1), (2, 1)), ((4, 3), (3, 1)), ((10, 3), (15, 1))])

    def test_a_round_that_makes_from_nothing(self):
        net = (("a", "b", "c"), (tie("a", "c", (4, 1), (1, 1), (9, 1)), tie("c", "b", (1, 1), (1, 1), (3, 1)),
                                 tie("b", "c", (1, 1), (2, 1), (2, 1))))
        self.assertEqual(self.are_right(net, "a", "c"), [((0, 1), (0, 1)), ((1, 1), (5, 1)), ((5, 1), (41, 1))])


class ByTheDice(Steps):

    def test_little_nets_against_all_corners(self):
        dice = Dice(51)
        lengths = set()
        for _ in range(80):
            net = some_net(dice, 4, 6, GAINS)
            if len(net[0]) < 2:
                continue
            begin, end = two_places(dice, net)
            steps = self.are_right(net, begin, end)
            lengths.add(len(steps))
            # Each step is a corner's many and price, and no corner lies below the steps.
            corners = [(left_over(net, stream, end), price_along(net, stream))
                       for stream in corner_streams(net, begin, end)]
            known = [(as_fraction(many), as_fraction(price)) for many, price in steps]
            self.assertTrue(set(known) <= set(corners))
            for many, price in corners:
                for (low, cheap), (high, dear) in zip(known, known[1:]):
                    if low <= many <= high:
                        self.assertGreaterEqual(price, cheap + (many - low) * (dear - cheap) / (high - low))
        self.assertTrue({1, 2, 3, 4} <= lengths, lengths)

    def test_great_nets(self):
        dice = Dice(52)
        longest = 0
        for _ in range(30):
            net = some_net(dice, 10, 24, GAINS)
            if len(net[0]) > 1:
                longest = max(longest, len(self.are_right(net, *two_places(dice, net))))
        self.assertGreater(longest, 6)

    def test_at_the_bounds(self):
        dice = Dice(53)
        for turn in range(6):
            self.are_right(great_net(dice, 60 if turn % 2 else 40), "a", "j")
        ties = tuple(tie("a", "b", (10 ** 9 - at, 1), as_pair(Fraction(60 - at, 60)), (10 ** 9 - at, 1))
                     for at in range(24))
        self.assertEqual(len(self.are_right((("a", "b"), ties), "a", "b")), 25)

    def test_own(self):
        dice = Dice(54)
        for net, begin, end in ((THREE, "a", "b"), ((("a", "b"), ()), "a", "b"), (great_net(dice), "a", "j")):
            check_own(self, lambda: price_steps(net, begin, end))
            check_own(self, lambda: next_price(net, begin, end, (1, 3)))


if __name__ == "__main__":
    unittest.main()
