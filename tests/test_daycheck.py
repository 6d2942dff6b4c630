"""Promises [1], [2] and [20]: worths that show a day's share and its cheapest book."""

import unittest
from fractions import Fraction

from gainroads.daycheck import day_worths, lift_sum, share_worths, shows_cheapest_day, shows_share
from gainroads.dayprice import cheapest_day
from gainroads.days import adds_up, day_price
from gainroads.dayshare import day_share
from gainroads.errors import GainError, Short
from helpers import (JUNK, Dice, as_fraction, as_pair, cheapest_day_shown, check_own, copied, day_noughts,
                     day_worths_ok, fraction_ok, frozen, great_day, lifted, put, share_shown, some_day, variants,
                     wishes_worth)
from test_days import BOOK, DAY, GAINS, LONE

SIZES = (5, 8, 8, 4, 10, 10)


def noughts(day):
    return [[(0, 1)] * day[1] for _ in day[0]]


class DayCheck(unittest.TestCase):

    def share(self, day):
        """The share, which its book and worths show."""
        share, book = day_share(day)
        worths = share_worths(day)
        self.assertTrue(day_worths_ok(day, worths))
        self.assertTrue(share_shown(day, share, book, worths))
        self.assertIs(shows_share(day, share, book, worths), True)
        return share

    def price(self, day):
        """The price, which its book and worths show."""
        price, book = cheapest_day(day)
        worths = day_worths(day)
        self.assertTrue(day_worths_ok(day, worths))
        self.assertTrue(cheapest_day_shown(day, book, worths))
        self.assertIs(shows_cheapest_day(day, book, worths), True)
        self.assertEqual(wishes_worth(day, worths) - lifted(day, worths, True), as_fraction(price))
        return price

    def short(self, day):
        """Refused by its own class alone, as cheapest_day is."""
        for ask in (day_worths, cheapest_day):
            with self.assertRaises(GainError) as caught:
                ask(day)
            self.assertIs(type(caught.exception), Short)
            self.assertEqual(frozen(caught.exception.share), frozen(day_share(day)[0]))


class LiftSum(DayCheck):

    def test_worths_of_nought(self):
        for day in (LONE, DAY):
            for priced in (True, False):
                self.assertEqual(lift_sum(day, noughts(day), priced), (0, 1))

    def test_a_tie(self):
        day = (("a", "b"), 3, (("a", "b", (5, 1), (3, 2), (1, 4), 1, (0, 1, 2)),), (), (), ())
        # Hour 0: 3/2 * 2 above 1; hour 1: 3/2 * 4 above 7 isn't; hour 2 would come behind the last.
        worths = [[(1, 1), (7, 1), (0, 1)], [(50, 1), (2, 1), (4, 1)]]
        self.assertEqual(lift_sum(day, worths, False), (10, 1))
        self.assertEqual(lift_sum(day, worths, True), (35, 4))
        self.assertEqual(lift_sum(put(day, [2, 0, 6], (1, 2)), worths, False), (0, 1))
        self.assertEqual(lift_sum(put(day, [2, 0, 6], ()), worths, False), (0, 1))
        self.assertEqual(lift_sum(put(day, [2, 0, 4], (2, 1)), worths, True), (0, 1))
        self.assertEqual(lift_sum(put(day, [2, 0, 4], (3, 1)), worths, True), (0, 1))
        self.assertEqual(lift_sum(put(day, [2, 0, 4], (3, 1)), worths, False), (10, 1))

    def test_how_late(self):
        day = (("a", "b"), 2, (("a", "b", (1, 1), (1, 1), (0, 1), 0, (0, 1)),), (), (), ())
        worths = [[(0, 1), (0, 1)], [(3, 1), (5, 1)]]
        for late, lift in ((0, (8, 1)), (1, (5, 1)), (2, (0, 1)), (3, (0, 1)), (10 ** 20, (0, 1))):
            self.assertEqual(lift_sum(put(day, [2, 0, 5], late), worths, False), lift)

    def test_a_store(self):
        day = (("a", "b"), 3, (), (("b", (4, 1), (1, 2)),), (), ())
        # From hour 0 to hour 1 by 3, from 1 to 2 not; behind the last hour all is 0.
        worths = [[(9, 1), (99, 1), (999, 1)], [(1, 1), (8, 1), (5, 1)]]
        for priced in (True, False):
            self.assertEqual(lift_sum(day, worths, priced), (12, 1))
            self.assertEqual(lift_sum(put(day, [3, 0, 2], (1, 1)), worths, priced), (28, 1))
            self.assertEqual(lift_sum(put(day, [3, 0, 2], (0, 1)), worths, priced), (0, 1))
            self.assertEqual(lift_sum(put(day, [1], 1), [[(9, 1)], [(7, 1)]], priced), (0, 1))

    def test_wells(self):
        wells = (("a", 1, (4, 1), (1, 2)), ("a", 1, (1, 1), (5, 1)), ("b", 0, (2, 1), (0, 1)))
        day = (("a", "b"), 2, (), (), wells, ())
        worths = [[(100, 1), (3, 1)], [(1, 3), (100, 1)]]
        self.assertEqual(lift_sum(day, worths, False), as_pair(15 + Fraction(2, 3)))
        self.assertEqual(lift_sum(day, worths, True), as_pair(10 + Fraction(2, 3)))

    def test_wishes_are_no_matter(self):
        worths = [[(1, 1), (2, 1), (3, 1)], [(1, 2), (5, 1), (7, 1)]]
        for priced in (True, False):
            self.assertEqual(lift_sum(DAY, worths, priced), lift_sum(put(DAY, [5], ()), worths, priced))

    def test_by_the_dice(self):
        dice = Dice(131)
        for _ in range(150):
            day = some_day(dice, SIZES, GAINS)
            worths = [[as_pair(Fraction(dice.roll(7), 1 + dice.roll(9))) for _ in range(day[1])] for _ in day[0]]
            for priced in (True, False):
                self.assertEqual(frozen(lift_sum(day, worths, priced)), frozen(as_pair(lifted(day, worths, priced))))
            # No worths let less than what can be met, or more than what must be paid.
            share = day_share(day)[0]
            self.assertGreaterEqual(lifted(day, worths, False) + max(1 - wishes_worth(day, worths), 0),
                                    as_fraction(share))
            if share == (1, 1):
                self.assertLessEqual(wishes_worth(day, worths) - lifted(day, worths, True),
                                     as_fraction(cheapest_day(day)[0]))


class Worths(DayCheck):

    def test_by_hand(self):
        self.assertEqual(self.share(DAY), (1, 1))
        self.assertEqual(self.price(DAY), (6, 1))
        self.assertEqual(self.share(put(DAY, [5], (("town", 1, (2, 1)), ("town", 2, (5, 1))))), (9, 14))
        self.assertEqual(self.share(LONE), (1, 1))
        self.assertEqual(self.price(LONE), (0, 1))

    def test_without_some(self):
        for at in (2, 3, 4, 5):
            day = put(DAY, [at], ())
            if self.share(day) == (1, 1):
                self.price(day)
            else:
                self.short(day)

    def test_one_hour_and_eight(self):
        day = (("a", "b"), 1, (("a", "b", (9, 1), (1, 3), (1, 1), 0, (0,)),), (("a", (9, 1), (1, 1)),),
               (("a", 0, (5, 1), (1, 1)),), (("b", 0, (2, 1)),))
        self.assertEqual(self.share(day), (5, 6))
        self.short(day)
        self.assertEqual(self.price(put(day, [5, 0, 2], (5, 3))), (10, 1))
        for keep in ((0, 1), (1, 2), (1, 1)):
            self.share((("a",), 8, (), (("a", (9, 1), keep),), (("a", 0, (10, 1), (1, 1)),), (("a", 7, (10, 1)),)))

    def test_just_met(self):
        # Nothing is to spare: the share is the greatest just at 1.
        day = (("a",), 1, (), (), (("a", 0, (1, 1), (2, 1)), ("a", 0, (2, 1), (7, 1))), (("a", 0, (3, 1)),))
        self.assertEqual((self.share(day), self.price(day)), ((1, 1), (16, 1)))
        day = (("a", "b"), 2, (("a", "b", (3, 1), (1, 1), (1, 1), 1, (0, 1)),), (), (("a", 0, (3, 1), (5, 1)),),
               (("b", 1, (3, 1)),))
        self.assertEqual((self.share(day), self.price(day)), ((1, 1), (18, 1)))

    def test_short(self):
        self.short(put(DAY, [5], (("town", 1, (2, 1)), ("town", 2, (5, 1)))))
        self.short(put(DAY, [4], ()))

    def test_by_the_dice(self):
        dice = Dice(132)
        seen = {"none": 0, "all": 0, "some": 0, "paid": 0}
        for turn in range(300):
            day = some_day(dice, SIZES if turn % 2 else (3, 4, 6, 3, 10, 2), GAINS)
            share = self.share(day)
            seen["none" if share == (0, 1) else "all" if share == (1, 1) else "some"] += 1
            if share == (1, 1):
                seen["paid"] += self.price(day) != (0, 1)
            else:
                self.short(day)
        self.assertGreater(min(seen.values()), 15, seen)

    def test_at_the_bounds(self):
        dice = Dice(133)
        seen = {"met": 0, "short": 0}
        for turn in range(10):
            day = great_day(dice, (1, 10 ** 4)[turn % 2])
            if self.share(day) == (1, 1):
                self.price(day)
                seen["met"] += 1
            else:
                self.short(day)
                seen["short"] += 1
        self.assertGreater(min(seen.values()), 2, seen)


class ShowsShare(DayCheck):

    DAY = (("a", "b"), 2, (("a", "b", (2, 1), (1, 2), (1, 1), 1, (0, 1)),), (("a", (1, 1), (1, 1)),),
           (("a", 0, (9, 1), (1, 1)),), (("b", 1, (3, 1)),))
    SHARE = (1, 3)
    BOOK = ([[(2, 1), (0, 1)]], [[(1, 1), (0, 1)]], [(9, 1)])
    WORTHS = [[(0, 1), (0, 1)], [(5, 1), (1, 3)]]

    def shown(self, share, book, worths, expected):
        self.assertIs(shows_share(self.DAY, share, book, worths), expected, (share, book, worths))

    def test_right_ones(self):
        self.shown(self.SHARE, self.BOOK, self.WORTHS, True)
        self.assertEqual(self.share(self.DAY), self.SHARE)
        self.assertIs(shows_share(LONE, (1, 1), ([], [], []), [[(5, 3)]]), True)

    def test_shares(self):
        for share in ((0, 1), (1, 1), (2, 3), (-1, 3), (4, 3), (10 ** 40 + 1, 3 * 10 ** 40), (2, 6), [1, 3], "1/3", 1,
                      0, True, False, None, (True, 3), (1, 3, 1), (1,), ("1", "3")):
            self.shown(share, self.BOOK, self.WORTHS, False)
        for share in JUNK:
            self.shown(share, self.BOOK, self.WORTHS, False)

    def test_shares_below_nought_and_above_one(self):
        # A share by which the book adds up, and which the worths tell too, but above 1.
        day = (("a",), 1, (), (), (("a", 0, (3, 1), (0, 1)),), (("a", 0, (2, 1)),))
        worths, book = [[(1, 2)]], ([], [], [(3, 1)])
        self.assertEqual((lift_sum(day, worths, False), adds_up(day, book, (3, 2))), ((3, 2), True))
        self.assertIs(shows_share(day, (3, 2), book, worths), False)
        self.assertIs(shows_share(LONE, (2, 1), ([], [], []), [[(0, 1)]]), False)
        self.assertIs(shows_share(LONE, (0, 1), ([], [], []), [[(0, 1)]]), False)
        self.assertIs(shows_share(LONE, (-1, 1), ([], [], []), [[(0, 1)]]), False)

    def test_worths_of_which_the_wishes_are_worth_more_than_one(self):
        day = (("a",), 1, (), (), (("a", 0, (1, 1), (0, 1)),), (("a", 0, (2, 1)),))
        book = ([], [], [(1, 1)])
        self.assertIs(shows_share(day, (1, 2), book, [[(1, 2)]]), True)
        # 3/4 less the 1/2 that is above 1 would be 1/4.
        self.assertIs(shows_share(day, (1, 4), book, [[(3, 4)]]), False)
        self.assertIs(shows_share(put(day, [4], ()), (0, 1), ([], [], []), [[(1, 2)]]), True)
        self.assertIs(shows_share(put(day, [4], ()), (0, 1), ([], [], []), [[(5, 1)]]), True)

    def test_a_lower_share_is_not_shown(self):
        # The book adds up by less too, but the worths tell more.
        self.assertIs(adds_up(self.DAY, self.BOOK, (1, 4)), True)
        self.shown((1, 4), self.BOOK, self.WORTHS, False)

    def test_worths_below_nought(self):
        # What they tell is right, but a place is worth less than nothing.
        day = (("a", "b"), 1, (), (), (("a", 0, (1, 1), (0, 1)),), (("a", 0, (2, 1)),))
        book = ([], [], [(1, 1)])
        self.assertIs(shows_share(day, (1, 2), book, [[(1, 2)], [(0, 1)]]), True)
        self.assertIs(shows_share(day, (1, 2), book, [[(1, 2)], [(-1, 1)]]), False)
        self.assertIs(shows_share(day, (1, 2), book, [[(1, 2)], [(7, 1)]]), True)

    def test_worths(self):
        one, two = self.WORTHS
        for worths in ([one], [one, two, two], [one[:1], two], [one, two + [(0, 1)]], (one, two), [tuple(one), two],
                       one + two, [one, None], [one, [5, 1]], [one, [[5, 1], [1, 3]]], [one, [(5, 1), (2, 6)]],
                       [one, [(5, 1), (True, 3)]], [one, ["5", (1, 3)]], [[one, two]], [], None, "ab", noughts(DAY),
                       [one, [(5, 1), (1, 4)]], [one, [(5, 1), (1, 2)]], [two, one]):
            self.shown(self.SHARE, self.BOOK, worths, False)
        for worths in JUNK:
            self.shown(self.SHARE, self.BOOK, worths, False)

    def test_books(self):
        hair = Fraction(1, 10 ** 40)
        for path, much in (([0, 0, 0], 2), ([1, 0, 0], 1), ([2, 0], 9)):
            self.shown(self.SHARE, put(self.BOOK, path, as_pair(much + hair)), self.WORTHS, False)
        self.shown(self.SHARE, put(self.BOOK, [0, 0, 0], as_pair(2 - hair)), self.WORTHS, False)
        self.shown(self.SHARE, put(self.BOOK, [2, 0], (3, 1)), self.WORTHS, True)
        self.shown(self.SHARE, put(self.BOOK, [2, 0], as_pair(3 - hair)), self.WORTHS, False)
        for book in JUNK + [day_noughts(self.DAY), list(self.BOOK), self.BOOK[:2], self.BOOK + ([],)]:
            self.shown(self.SHARE, book, self.WORTHS, False)

    def test_anything(self):
        for share in variants(self.SHARE):
            self.shown(share, self.BOOK, self.WORTHS, share_shown(self.DAY, share, self.BOOK, self.WORTHS))
        for book in variants(self.BOOK):
            self.shown(self.SHARE, book, self.WORTHS, share_shown(self.DAY, self.SHARE, book, self.WORTHS))
        for worths in variants(self.WORTHS):
            self.shown(self.SHARE, self.BOOK, worths, share_shown(self.DAY, self.SHARE, self.BOOK, worths))


class ShowsCheapestDay(DayCheck):

    BOOK = ([[(3, 1), (0, 1), (0, 1)], [(0, 1)] * 3], [[(0, 1)] * 3, [(0, 1), (1, 2), (0, 1)]],
            [(3, 1), (0, 1), (1, 1)])
    # In the mill each costs 1 at first, in the town 4, as 2 must be drawn and sent, and nothing is lost there.
    WORTHS = [[(1, 1), (1, 1), (0, 1)], [(4, 1), (4, 1), (4, 1)]]

    def shown(self, book, worths, expected):
        self.assertIs(shows_cheapest_day(DAY, book, worths), expected, (book, worths))

    def test_right_ones(self):
        self.assertEqual(day_price(DAY, self.BOOK), (6, 1))
        self.shown(self.BOOK, self.WORTHS, True)
        self.assertIs(shows_cheapest_day(LONE, ([], [], []), [[(5, 3)]]), True)
        # What is drawn for nothing is no matter, where less is kept for it, or runs off.
        self.shown(put(self.BOOK, [2, 2], (0, 1)), self.WORTHS, False)
        free = put(DAY, [4], DAY[4] + (("mill", 2, (5, 1), (0, 1)),))
        for much in ((0, 1), (1, 7), (5, 1)):
            self.assertIs(shows_cheapest_day(free, put(self.BOOK, [2], self.BOOK[2] + [much]), self.WORTHS), True)

    def test_dearer_books(self):
        self.assertIs(adds_up(DAY, BOOK, (1, 1)), True)
        self.shown(BOOK, self.WORTHS, False)
        self.shown(put(self.BOOK, [2, 0], (10 ** 40 * 3 + 1, 10 ** 40)), self.WORTHS, False)

    def test_books_that_do_not_add_up_by_one(self):
        self.shown(put(self.BOOK, [2, 0], (10 ** 40 * 3 - 1, 10 ** 40)), self.WORTHS, False)
        self.assertIs(adds_up(DAY, day_noughts(DAY), (0, 1)), True)
        self.shown(day_noughts(DAY), noughts(DAY), False)
        # Its price is what the worths tell, but it adds up by less than 1 alone.
        day = (("a",), 1, (), (), (("a", 0, (1, 1), (0, 1)),), (("a", 0, (2, 1)),))
        self.assertIs(shows_cheapest_day(day, ([], [], [(1, 1)]), [[(0, 1)]]), False)

    def test_worths_below_nought(self):
        day = (("a", "b"), 1, (), (), (("a", 0, (2, 1), (3, 1)),), (("a", 0, (1, 1)),))
        book = ([], [], [(1, 1)])
        self.assertIs(shows_cheapest_day(day, book, [[(3, 1)], [(0, 1)]]), True)
        self.assertIs(shows_cheapest_day(day, book, [[(3, 1)], [(-1, 1)]]), False)
        self.assertIs(shows_cheapest_day(day, book, [[(2, 1)], [(0, 1)]]), False)
        self.assertIs(shows_cheapest_day(day, book, [[(4, 1)], [(0, 1)]]), False)

    def test_worths(self):
        one, two = self.WORTHS
        for worths in ([one], [one, two, two], [one[:2], two], [one, two + [(0, 1)]], (one, two), [tuple(one), two],
                       one + two, [one, None], [one, [4, 4, 4]], [one, [(4, 1), (4, 1), [4, 1]]],
                       [one, [(4, 1), (4, 1), (8, 2)]], [one, [(4, 1), (4, 1), (4, True)]], [[one, two]], [], None,
                       noughts(DAY), [two, one]):
            self.shown(self.BOOK, worths, False)
        for worths in JUNK:
            self.shown(self.BOOK, worths, False)
        for book in JUNK:
            self.shown(book, self.WORTHS, False)

    def test_anything(self):
        for book in variants(self.BOOK):
            self.shown(book, self.WORTHS, cheapest_day_shown(DAY, book, self.WORTHS))
        for worths in variants(self.WORTHS):
            self.shown(self.BOOK, worths, cheapest_day_shown(DAY, self.BOOK, worths))


class Own(DayCheck):

    def test_what_is_told_and_handed_in(self):
        for day in (LONE, DAY, great_day(Dice(134), 10 ** 4)):
            check_own(self, lambda: share_worths(day))
            share, book = day_share(day)
            check_own(self, lambda book, worths: shows_share(day, share, book, worths), copied(book),
                      share_worths(day))
            check_own(self, lambda worths: lift_sum(day, worths, True), share_worths(day))
        for day in (LONE, DAY):
            check_own(self, lambda: day_worths(day))
            check_own(self, lambda book, worths: shows_cheapest_day(day, book, worths), cheapest_day(day)[1],
                      day_worths(day))

    def test_what_was_told_may_be_handed_in_again(self):
        worths = day_worths(great_day(Dice(136), 10 ** 6))
        self.assertTrue(all(fraction_ok(worth) for row in worths for worth in row))
        self.assertTrue(fraction_ok(lift_sum(great_day(Dice(136), 10 ** 6), worths, True)))


if __name__ == "__main__":
    unittest.main()
