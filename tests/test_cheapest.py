"""Promises [1], [2] and [12]: the cheapest stream that brings just so much, and the worths that show it."""

import unittest
from fractions import Fraction

from gainroads.cheapest import cheapest, price_sum, price_worths, shows_cheapest
from gainroads.errors import GainError, NotSoMuch
from gainroads.most import most
from helpers import (JUNK, Dice, as_fraction, as_pair, check_own, corner_streams, fraction_ok, frozen, great_net,
                     keeps_ok, left_over, price_along, some_keeping, some_net, two_places, variants, worths_ok)

GAINS = [(1, 2), (1, 1), (2, 1), (3, 4), (60, 59), (4, 3), (2, 3)]
HAIR = Fraction(1, 10 ** 40)


def tie(begin, end, most, gain, price):
    return (begin, end, most, gain, price)


# The cheap way by b brings 4 at 3/4 for each, the dear one 1/3 at 5 for each.
PLAIN = (("a", "b", "c"), (tie("a", "b", (4, 1), (1, 2), (1, 2)), tie("b", "c", (3, 1), (2, 1), (1, 2)),
                           tie("a", "c", (1, 3), (1, 1), (5, 1))))


def price_total(net, end, many, worths):
    at = {place: as_fraction(worth) for place, worth in zip(net[0], worths)}
    total = many * at[end]
    for begin, to, most, gain, price in net[1]:
        total -= as_fraction(most) * max(as_fraction(gain) * at[to] - at[begin] - as_fraction(price), 0)
    return total


def shows_ok(net, begin, end, many, stream, worths):
    """The document's words once more."""
    if not keeps_ok(net, begin, end, stream) or not worths_ok(net, worths):
        return False
    return (left_over(net, stream, end) == as_fraction(many) and worths[net[0].index(begin)] == (0, 1)
            and price_along(net, stream) == price_total(net, end, as_fraction(many), worths))


class Cheapest(unittest.TestCase):

    def is_cheapest(self, net, begin, end, many):
        """The price, of which the stream, the worths and the checker all say that it's the lowest."""
        told = cheapest(net, begin, end, many)
        self.assertIs(type(told), tuple)
        price, stream = told
        self.assertTrue(fraction_ok(price) and keeps_ok(net, begin, end, stream))
        self.assertEqual(left_over(net, stream, end), as_fraction(many))
        self.assertEqual(price_along(net, stream), as_fraction(price))
        worths = price_worths(net, begin, end, many)
        self.assertTrue(worths_ok(net, worths))
        self.assertEqual(worths[net[0].index(begin)], (0, 1))
        self.assertEqual(price_total(net, end, as_fraction(many), worths), as_fraction(price))
        self.assertEqual(price_sum(net, end, many, worths), price)
        self.assertIs(shows_cheapest(net, begin, end, many, stream, worths), True)
        return price

    def is_refused(self, net, begin, end, many, value):
        for ask in (cheapest, price_worths):
            with self.assertRaises(GainError) as caught:
                ask(net, begin, end, many)
            self.assertIs(type(caught.exception), NotSoMuch)
            self.assertEqual(frozen(caught.exception.most), frozen(value))

    def is_right_for_all(self, net, begin, end):
        """Of many 0, some, half of the most, a little less, just the most, and above it."""
        value = as_fraction(most(net, begin, end)[0])
        self.assertEqual(self.is_cheapest(net, begin, end, (0, 1)), (0, 1))
        for share in (Fraction(1, 7), Fraction(1, 2), Fraction(5, 6), 1 - HAIR, Fraction(1)):
            self.is_cheapest(net, begin, end, as_pair(value * share))
        for many in (value + HAIR, value + 1, value * 3 + 10 ** 50):
            self.is_refused(net, begin, end, as_pair(many), as_pair(value))


class ByHand(Cheapest):

    def test_plain(self):
        for many, price in (((0, 1), (0, 1)), ((1, 1), (3, 4)), ((4, 1), (3, 1)), ((25, 6), (23, 6)),
                            ((13, 3), (14, 3))):
            self.assertEqual(self.is_cheapest(PLAIN, "a", "c", many), price)
        self.assertEqual(cheapest(PLAIN, "a", "c", (0, 1)), ((0, 1), [(0, 1)] * 3))
        self.assertEqual(cheapest(PLAIN, "a", "c", (2, 1)), ((3, 2), [(2, 1), (1, 1), (0, 1)]))
        self.assertEqual(cheapest(PLAIN, "a", "c", (13, 3)), ((14, 3), [(4, 1), (2, 1), (1, 3)]))
        self.is_refused(PLAIN, "a", "c", (14, 3), (13, 3))
        self.is_right_for_all(PLAIN, "a", "c")

    def test_without_ties(self):
        for places in (("a", "b"), tuple("abcdefghij")):
            self.is_right_for_all((places, ()), "a", "b")
            self.assertEqual(cheapest((places, ()), "a", "b", (0, 1)), ((0, 1), []))
            self.is_refused((places, ()), "a", "b", (1, 10 ** 40), (0, 1))

    def test_no_way_joins_begin_and_end(self):
        net = (("a", "b", "c"), (tie("b", "a", (3, 1), (2, 1), (0, 1)), tie("a", "c", (3, 1), (2, 1), (0, 1))))
        self.is_right_for_all(net, "a", "b")
        self.is_refused(net, "a", "b", (1, 1), (0, 1))

    def test_mosts_of_nought(self):
        net = (("a", "b"), (tie("a", "b", (0, 1), (60, 1), (0, 1)), tie("a", "b", (2, 1), (1, 1), (7, 2))))
        self.assertEqual(self.is_cheapest(net, "a", "b", (1, 1)), (7, 2))
        self.is_right_for_all(net, "a", "b")

    def test_prices_of_nought(self):
        net = (("a", "b"), (tie("a", "b", (1, 1), (1, 1), (0, 1)), tie("a", "b", (2, 1), (1, 1), (1, 60)),
                            tie("b", "a", (2, 1), (1, 1), (0, 1))))
        self.assertEqual(self.is_cheapest(net, "a", "b", (1, 1)), (0, 1))
        self.assertEqual(self.is_cheapest(net, "a", "b", (2, 1)), (1, 60))
        self.is_right_for_all(net, "a", "b")
        free = (net[0], tuple(some[:4] + ((0, 1),) for some in net[1]))
        self.assertEqual(self.is_cheapest(free, "a", "b", (3, 1)), (0, 1))
        self.is_right_for_all(free, "a", "b")

    def test_several_ties_between_the_same_two(self):
        # By what comes, not by what goes: for each 1/2, then 2/3, then 3/4.
        net = (("a", "b"), (tie("a", "b", (1, 1), (2, 1), (1, 1)), tie("a", "b", (1, 1), (4, 1), (3, 1)),
                            tie("a", "b", (1, 1), (1, 2), (1, 3))))
        for many, price in (((2, 1), (1, 1)), ((5, 2), (4, 3)), ((9, 2), (17, 6)), ((13, 2), (13, 3))):
            self.assertEqual(self.is_cheapest(net, "a", "b", many), price)
        self.is_right_for_all(net, "a", "b")

    def test_a_dear_round_makes_from_nothing(self):
        # The way costs 9 for each; the round at the end makes each for 5.
        net = (("a", "b", "c"), (tie("a", "c", (4, 1), (1, 1), (9, 1)), tie("c", "b", (1, 1), (1, 1), (3, 1)),
                                 tie("b", "c", (1, 1), (2, 1), (2, 1))))
        self.assertEqual(self.is_cheapest(net, "a", "c", (1, 1)), (5, 1))
        self.assertEqual(self.is_cheapest(net, "a", "c", (3, 2)), (19, 2))
        self.is_right_for_all(net, "a", "c")

    def test_rounds_far_from_both_and_of_gain_one(self):
        ties = (tie("b", "c", (6, 1), (4, 1), (1, 1)), tie("c", "b", (20, 1), (1, 2), (1, 4)),
                tie("c", "d", (9, 1), (1, 3), (1, 9)), tie("d", "e", (5, 1), (3, 1), (2, 1)))
        net = (("a", "b", "c", "d", "e"), ties)
        # 9 go from c to b, 9/2 from b to c, 9 on to d, 3 on to e.
        self.assertEqual(self.is_cheapest(net, "a", "e", (9, 1)), (55, 4))
        self.is_right_for_all(net, "a", "e")
        even = (("a", "b", "c"), (tie("a", "b", (3, 1), (2, 1), (1, 1)), tie("b", "a", (9, 1), (1, 2), (0, 1)),
                                  tie("b", "c", (5, 1), (1, 1), (0, 1)), tie("c", "b", (5, 1), (1, 1), (0, 1))))
        self.assertEqual(self.is_cheapest(even, "a", "c", (5, 1)), (5, 2))
        self.is_right_for_all(even, "a", "c")

    def test_ties_into_begin_and_out_of_end(self):
        net = (("a", "b", "c"), (tie("a", "b", (3, 1), (1, 1), (1, 1)), tie("b", "a", (3, 1), (60, 1), (0, 1)),
                                 tie("b", "c", (3, 1), (1, 1), (1, 1)), tie("c", "a", (3, 1), (1, 1), (0, 1)),
                                 tie("c", "b", (3, 1), (1, 2), (0, 1))))
        self.assertEqual(self.is_cheapest(net, "a", "c", (3, 1)), (6, 1))
        self.is_right_for_all(net, "a", "c")


class Sums(Cheapest):

    def test_price_sum(self):
        self.assertEqual(price_sum(PLAIN, "c", (2, 1), [(0, 1), (3, 1), (5, 1)]), (-27, 2))
        self.assertEqual(price_sum(PLAIN, "c", (2, 1), [(0, 1), (1, 1), (5, 4)]), (-1, 2))
        self.assertEqual(price_sum(PLAIN, "c", (2, 1), [(0, 1), (2, 1), (5, 4)]), (1, 2))
        self.assertEqual(price_sum(PLAIN, "c", (2, 1), [(0, 1), (1, 1), (3, 4)]), (3, 2))
        self.assertEqual(price_sum(PLAIN, "c", (0, 1), [(0, 1), (1, 1), (3, 4)]), (0, 1))

    def test_below_nought_and_any_size(self):
        huge = 10 ** 60
        self.assertEqual(price_sum(PLAIN, "c", (huge, 1), [(0, 1), (0, 1), (-1, 1)]), (-huge, 1))
        self.assertEqual(price_sum(PLAIN, "c", (1, huge), [(-5, 1), (-9, 1), (-2, 1)]),
                         as_pair(price_total(PLAIN, "c", Fraction(1, huge), [(-5, 1), (-9, 1), (-2, 1)])))
        self.assertEqual(price_sum((("a", "b"), ()), "b", (7, 2), [(3, 1), (2, 3)]), (7, 3))

    def test_by_the_dice(self):
        dice = Dice(41)
        for _ in range(200):
            net = some_net(dice, 10, 24, GAINS)
            worths = [as_pair(Fraction(dice.roll(19) - 6, 1 + dice.roll(5))) for _ in net[0]]
            many = Fraction(dice.roll(50), 1 + dice.roll(7))
            end = dice.one_of(net[0])
            self.assertEqual(frozen(price_sum(net, end, as_pair(many), worths)),
                             frozen(as_pair(price_total(net, end, many, worths))))


class Shows(Cheapest):

    MANY = (2, 1)
    STREAM = [(2, 1), (1, 1), (0, 1)]
    WORTHS = [(0, 1), (1, 1), (3, 4)]

    def shown(self, stream, worths, expected, many=MANY):
        self.assertIs(shows_cheapest(PLAIN, "a", "c", many, stream, worths), expected, (many, stream, worths))

    def test_right_ones(self):
        self.shown(self.STREAM, self.WORTHS, True)
        net = (("a", "b", "c"), ())
        for worths in ([(0, 1), (-7, 2), (10 ** 50, 3)], [(0, 1), (0, 1), (-1, 1)]):
            self.assertIs(shows_cheapest(net, "a", "c", (0, 1), [], worths), True)
            self.assertIs(shows_cheapest(net, "a", "c", (1, 10 ** 50), [], worths), False)

    def test_a_little_more_or_less(self):
        for at in range(3):
            for by in (HAIR, -HAIR):
                stream = list(self.STREAM)
                stream[at] = as_pair(as_fraction(stream[at]) + by)
                self.shown(stream, self.WORTHS, False)
                worths = list(self.WORTHS)
                worths[at] = as_pair(as_fraction(worths[at]) + by)
                self.shown(self.STREAM, worths, False)
        for many in ((0, 1), (1, 1), as_pair(2 + HAIR), as_pair(2 - HAIR), (5, 1), (10 ** 50, 1)):
            self.shown(self.STREAM, self.WORTHS, False, many)

    def test_a_dearer_stream(self):
        dear = [as_pair(Fraction(5, 3)), as_pair(Fraction(5, 6)), (1, 3)]
        self.assertTrue(keeps_ok(PLAIN, "a", "c", dear) and left_over(PLAIN, dear, "c") == 2)
        self.shown(dear, self.WORTHS, False)

    def test_worths_that_show_nothing(self):
        for worths in ([(0, 1), (0, 1), (0, 1)], [(0, 1), (1, 1), (1, 1)], [(0, 1), (1, 1), (2, 1)],
                       [(0, 1), (-1, 1), (-1, 1)]):
            self.shown(self.STREAM, worths, False)

    def test_not_nought_of_begin(self):
        net = (("a", "b"), (tie("a", "b", (2, 1), (1, 1), (3, 1)),))
        self.assertIs(shows_cheapest(net, "a", "b", (1, 1), [(1, 1)], [(0, 1), (3, 1)]), True)
        # Their price_sum is 3 as well.
        self.assertEqual(price_sum(net, "b", (1, 1), [(1, 1), (3, 1)]), (3, 1))
        self.assertIs(shows_cheapest(net, "a", "b", (1, 1), [(1, 1)], [(1, 1), (3, 1)]), False)
        # Of just the most many worths do, end's being of any size.
        for worth in ((3, 1), (4, 1), (10 ** 50, 1)):
            self.assertIs(shows_cheapest(net, "a", "b", (2, 1), [(2, 1)], [(0, 1), worth]), True)

    def test_streams_that_do_not_keep(self):
        for stream in ([(1, 1), (1, 1), (0, 1)], [(3, 1), (1, 1), (0, 1)], [(4, 1), (1, 1), (0, 1)]):
            self.assertEqual(left_over(PLAIN, stream, "c"), 2)
            self.shown(stream, self.WORTHS, False)
        self.shown([(0, 1), (0, 1), (2, 1)], self.WORTHS, False)

    def test_wrong_things(self):
        for wrong in JUNK:
            self.shown(wrong, self.WORTHS, False)
            self.shown(self.STREAM, wrong, False)
            self.shown(wrong, wrong, False)
        one, two, three = self.WORTHS
        for worths in ([one, two], [one, two, three, one], (one, two, three), [list(one), list(two), list(three)],
                       [0, 2, 1], [(False, 1), two, three], [(0, True), two, three], [(0, 2), two, three],
                       [one, (two[0] * 2, two[1] * 2), three], [one, two, (str(three[0]), three[1])], [one, two, "3/4"],
                       [one, None, three], [one, two[:1], three], [one, two, three + (1,)], [[one, two, three]]):
            self.shown(self.STREAM, worths, False)
        for stream in (self.STREAM[:2], self.STREAM + [(0, 1)], tuple(self.STREAM), [[2, 1], [1, 1], [0, 1]],
                       [(2, True), (1, 1), (0, 1)], [(2, 1), (True, 1), (0, 1)], [(2, 1), (1, 1), (False, 1)],
                       [(2, 1), (1, 1), (0, 2)], [2, 1, 0], [self.STREAM]):
            self.shown(stream, self.WORTHS, False)

    def test_anything(self):
        for stream in variants(self.STREAM):
            self.shown(stream, self.WORTHS, shows_ok(PLAIN, "a", "c", self.MANY, stream, self.WORTHS))
        for worths in variants(self.WORTHS):
            self.shown(self.STREAM, worths, shows_ok(PLAIN, "a", "c", self.MANY, self.STREAM, worths))


class ByTheDice(Cheapest):

    def test_none_of_all_corners_is_cheaper(self):
        dice = Dice(42)
        some = 0
        for _ in range(70):
            net = some_net(dice, 4, 6, GAINS)
            if len(net[0]) < 2:
                continue
            begin, end = two_places(dice, net)
            value = as_fraction(most(net, begin, end)[0])
            some += value > 0
            for many in sorted({Fraction(0), value / 3, value / 2, value}):
                price = self.is_cheapest(net, begin, end, as_pair(many))
                corners = corner_streams(net, begin, end, many)
                self.assertEqual(min(price_along(net, stream) for stream in corners), as_fraction(price))
        self.assertGreater(some, 15)

    def test_no_drawn_stream_is_cheaper(self):
        dice = Dice(43)
        seen = {"some": 0, "none": 0, "dearer": 0}
        for _ in range(80):
            net = some_net(dice, 8, 20, GAINS)
            if len(net[0]) < 2:
                continue
            begin, end = two_places(dice, net)
            for _ in range(5):
                stream = some_keeping(dice, net, begin, end)
                many = left_over(net, stream, end)
                if many < 0:
                    continue
                price = as_fraction(self.is_cheapest(net, begin, end, as_pair(many)))
                self.assertLessEqual(price, price_along(net, stream))
                seen["some" if many else "none"] += 1
                seen["dearer"] += price < price_along(net, stream)
                worths = [as_pair(Fraction(dice.roll(9) - 2, 1 + dice.roll(3))) for _ in net[0]]
                worths[net[0].index(begin)] = (0, 1)
                self.assertGreaterEqual(price, as_fraction(price_sum(net, end, as_pair(many), worths)))
        self.assertGreater(min(seen.values()), 30, seen)

    def test_great_nets(self):
        dice = Dice(44)
        for _ in range(100):
            net = some_net(dice, 10, 24, GAINS)
            if len(net[0]) > 1:
                self.is_right_for_all(net, *two_places(dice, net))

    def test_at_the_bounds(self):
        dice = Dice(45)
        for turn in range(20):
            self.is_right_for_all(great_net(dice, 60 if turn % 2 else 40), "a", "j")

    def test_many_of_any_size(self):
        for many in ((10 ** 60 + 1, 10 ** 60), (1, 10 ** 90), (10 ** 90, 3 * 10 ** 89 + 1)):
            self.is_cheapest(PLAIN, "a", "c", many)
        self.is_refused(PLAIN, "a", "c", (10 ** 400, 1), (13, 3))
        self.is_refused(PLAIN, "a", "c", (13 * 10 ** 400 + 1, 3 * 10 ** 400), (13, 3))


class Own(Cheapest):

    def test_what_is_told_and_handed_in(self):
        dice = Dice(46)
        for net, begin, end in ((PLAIN, "a", "c"), ((("a", "b"), ()), "a", "b"), (great_net(dice), "a", "j")):
            value = as_fraction(most(net, begin, end)[0])
            for many in (Fraction(0), value / 2, value):
                many = as_pair(many)
                check_own(self, lambda: cheapest(net, begin, end, many))
                check_own(self, lambda: price_worths(net, begin, end, many))
                worths = price_worths(net, begin, end, many)
                check_own(self, lambda worths: price_sum(net, end, many, worths), worths)
                check_own(self, lambda stream, worths: shows_cheapest(net, begin, end, many, stream, worths),
                          cheapest(net, begin, end, many)[1], price_worths(net, begin, end, many))


if __name__ == "__main__":
    unittest.main()
