"""Promises [1], [2] and [19]: the greatest share by which a day's book adds up."""

import unittest
from fractions import Fraction

from gainroads.days import adds_up
from gainroads.dayshare import day_share
from helpers import (DayDrawing, Dice, adds_ok, as_fraction, as_pair, check_own, corners_of, day_noughts, day_rows,
                     fraction_ok, great_day, put, some_day)
from test_days import BOOK, DAY, GAINS, LONE

SIZES = (5, 8, 8, 4, 10, 10)


def leaky(keep, hours, most=(100, 1)):
    """10 come in the first hour, and are wished in the last."""
    return (("a",), hours, (), (("a", most, keep),), (("a", 0, (10, 1), (0, 1)),), (("a", hours - 1, (10, 1)),))


class DayShare(unittest.TestCase):

    def is_share(self, day):
        """The share, by which the book adds up."""
        told = day_share(day)
        self.assertIs(type(told), tuple)
        share, book = told
        self.assertTrue(fraction_ok(share) and 0 <= as_fraction(share) <= 1)
        self.assertIs(adds_up(day, book, share), True)
        self.assertTrue(adds_ok(day, book, share))
        return share


class ByHand(DayShare):

    def test_mill_and_town(self):
        self.assertEqual(self.is_share(DAY), (1, 1))
        # 2 come to the town in hour 1, of them what isn't wished is kept, and 5/2 in hour 2.
        day = put(DAY, [5], (("town", 1, (2, 1)), ("town", 2, (5, 1))))
        self.assertEqual(self.is_share(day), (9, 14))
        self.assertEqual(self.is_share(put(DAY, [5], (("town", 1, (4, 1)),))), (1, 2))
        self.assertEqual(self.is_share(put(DAY, [5], (("town", 0, (4, 1)),))), (0, 1))
        self.assertEqual(self.is_share(put(DAY, [5], (("town", 0, (4, 1)), ("town", 1, (1, 1))))), (0, 1))

    def test_without_anything(self):
        self.assertEqual(day_share(LONE), ((1, 1), ([], [], [])))
        self.assertEqual(self.is_share((("a", "b"), 8, (), (), (), ())), (1, 1))

    def test_without_wishes(self):
        self.assertEqual(self.is_share(put(DAY, [5], ())), (1, 1))

    def test_without_wells(self):
        self.assertEqual(self.is_share(put(DAY, [4], ())), (0, 1))
        self.assertEqual(self.is_share(put(put(DAY, [4], ()), [5], ())), (1, 1))

    def test_without_ties(self):
        self.assertEqual(self.is_share(put(DAY, [2], ())), (0, 1))
        self.assertEqual(self.is_share(put(put(DAY, [2], ()), [5], (("town", 2, (3, 1)),))), (1, 3))

    def test_without_stores(self):
        # In hour 2 come 1 of the well and 1 of what is drawn in hour 1, and 1 of what goes to the town and back.
        day = put(put(DAY, [3], ()), [5], (("town", 2, (4, 1)),))
        self.assertEqual(self.is_share(day), (3, 4))
        self.assertEqual(self.is_share(put(day, [2], day[2][:1])), (1, 2))

    def test_one_hour(self):
        day = (("a", "b"), 1, (("a", "b", (9, 1), (1, 3), (1, 1), 0, (0,)),), (("a", (9, 1), (1, 1)),),
               (("a", 0, (5, 1), (1, 1)),), (("b", 0, (2, 1)),))
        self.assertEqual(self.is_share(day), (5, 6))
        self.assertEqual(self.is_share(put(day, [2, 0, 5], 1)), (0, 1))
        self.assertEqual(self.is_share(put(day, [2, 0, 6], ())), (0, 1))

    def test_eight_hours(self):
        day = (("a", "b"), 8, (("a", "b", (9, 1), (1, 1), (0, 1), 7, (0, 1, 7)),), (), (("a", 0, (5, 1), (0, 1)),),
               (("b", 7, (6, 1)),))
        self.assertEqual(self.is_share(day), (5, 6))
        for hour in range(7):
            self.assertEqual(self.is_share(put(day, [5, 0, 1], hour)), (0, 1))

    def test_stores_leak(self):
        for keep, hours, share in (((1, 2), 4, (1, 8)), ((1, 1), 8, (1, 1)), ((0, 1), 2, (0, 1)), ((0, 1), 1, (1, 1)),
                                   ((1, 2), 1, (1, 1)), ((9, 10), 3, (81, 100)), ((1, 1000), 8, (1, 10 ** 21))):
            self.assertEqual(self.is_share(leaky(keep, hours)), share)
        self.assertEqual(self.is_share(leaky((1, 1), 3, (4, 1))), (2, 5))
        self.assertEqual(self.is_share(leaky((1, 2), 3, (4, 1))), (1, 10))
        self.assertEqual(self.is_share(leaky((1, 1), 3, (0, 1))), (0, 1))

    def test_stores_at_two_places(self):
        # What waits at a leaks by half, what waits at b not at all; the tie bears 3 in an hour.
        day = (("a", "b"), 3, (("a", "b", (3, 1), (1, 1), (0, 1), 0, (0, 1, 2)),),
               (("a", (9, 1), (1, 2)), ("b", (9, 1), (1, 1))), (("a", 0, (8, 1), (0, 1)),), (("b", 2, (10, 1)),))
        self.assertEqual(self.is_share(day), as_pair(Fraction(11, 20)))
        self.assertEqual(self.is_share(put(day, [3, 1, 2], (0, 1))), (1, 5))
        self.assertEqual(self.is_share(put(day, [3, 0, 2], (1, 1))), (4, 5))

    def test_how_late(self):
        day = (("a", "b"), 3, (("a", "b", (9, 1), (1, 1), (0, 1), 2, (0, 1, 2)),), (), (("a", 0, (1, 1), (0, 1)),),
               (("b", 2, (1, 1)),))
        for late, share in ((0, (0, 1)), (1, (0, 1)), (2, (1, 1)), (3, (0, 1)), (4, (0, 1)), (10 ** 20, (0, 1))):
            self.assertEqual(self.is_share(put(day, [2, 0, 5], late)), share)
        for opens, share in (((), (0, 1)), ((0,), (1, 1)), ((1, 2), (0, 1))):
            self.assertEqual(self.is_share(put(day, [2, 0, 6], opens)), share)

    def test_several_at_one_place_and_hour(self):
        day = (("a",), 2, (), (), (("a", 1, (1, 1), (0, 1)), ("a", 1, (1, 2), (5, 1)), ("a", 0, (9, 1), (0, 1))),
               (("a", 1, (1, 1)), ("a", 1, (2, 1))))
        self.assertEqual(self.is_share(day), (1, 2))

    def test_just_met_and_more_than_once_over(self):
        for most, share in (((0, 1), (0, 1)), ((1, 1000), (1, 3000)), ((3, 1), (1, 1)), ((10 ** 9, 1), (1, 1)),
                            ((2999999, 10 ** 6), (2999999, 3 * 10 ** 6))):
            day = (("a",), 1, (), (), (("a", 0, most, (7, 1)),), (("a", 0, (3, 1)),))
            self.assertEqual(self.is_share(day), share)

    def test_one_wish_that_can_not_be_met(self):
        day = (("a", "b"), 2, (), (), (("a", 0, (9, 1), (0, 1)),), (("a", 0, (1, 1)), ("b", 1, (1, 1000))))
        self.assertEqual(self.is_share(day), (0, 1))
        self.assertEqual(self.is_share(put(day, [5], day[5][:1])), (1, 1))

    def test_a_round_makes_from_nothing(self):
        day = (("a", "b"), 1, (
            ("a", "b", (1, 1), (2, 1), (0, 1), 0, (0,)), ("b", "a", (2, 1), (1, 1), (0, 1), 0, (0,))),
            (), (), (("b", 0, (4, 1)),))
        self.assertEqual(self.is_share(day), (1, 4))
        # Over hours it needs something to begin with.
        self.assertEqual(self.is_share(put(put(day, [1], 8), [2, 0, 5], 1)), (0, 1))

    def test_what_is_handed_in_may_be_greater(self):
        day = put(leaky((10 ** 50, 10 ** 50 + 1), 3), [4, 0, 2], (10 ** 60 + 1, 10 ** 59))
        expected = Fraction(10 ** 60 + 1, 10 ** 60) * Fraction(10 ** 50, 10 ** 50 + 1) ** 2
        self.assertEqual(self.is_share(day), as_pair(min(expected, Fraction(1))))


class ByTheDice(DayShare):

    def test_all_corners(self):
        dice = Dice(111)
        seen = {"none": 0, "all": 0, "some": 0}
        tried = 0
        while tried < 60:
            day = some_day(dice, (2, 2, 3, 1, 3, 2), GAINS)
            names, rows = day_rows(day)
            if len(rows) > 2 or len(names) > 5 or day[5] == ():
                continue
            tried += 1
            bare = hour_sums_of_wishes(day)
            rows = [row + [-wish] + [-Fraction(at == other) for other in range(len(rows))]
                    for at, (row, wish) in enumerate(zip(rows, bare))]
            mosts = [most for name, most in names] + [Fraction(1)] + [Fraction(1000)] * len(rows)
            best = max(amounts[len(names)] for amounts in corners_of(rows, [Fraction(0)] * len(rows), mosts))
            self.assertEqual(as_fraction(self.is_share(day)), best, day)
            seen["none" if best == 0 else "all" if best == 1 else "some"] += 1
        self.assertGreater(min(seen.values()), 8, seen)

    def test_no_drawn_book_adds_up_by_more(self):
        dice = Dice(112)
        met = 0
        for turn in range(200):
            day = some_day(dice, SIZES if turn % 4 == 0 else (3, 4, 6, 3, 8, 3), GAINS)
            best = as_fraction(self.is_share(day))
            for _ in range(4):
                share, book = DayDrawing(dice, day).draw(10)
                self.assertIs(adds_up(day, book, share), True)
                self.assertLessEqual(as_fraction(share), best)
                met += day[5] != () and share != (0, 1)
        self.assertGreater(met, 150)

    def test_at_the_bounds(self):
        dice = Dice(113)
        between = 0
        for turn in range(8):
            day = great_day(dice, (1, 100)[turn % 2])
            share = self.is_share(day)
            between += share not in ((0, 1), (1, 1))
            drawn, book = DayDrawing(dice, day).draw(30)
            self.assertIs(adds_up(day, book, drawn), True)
            self.assertLessEqual(as_fraction(drawn), as_fraction(share))
        self.assertGreater(between, 2)


def hour_sums_of_wishes(day):
    """All that is wished, for each place and hour."""
    return [sum((as_fraction(wish[2]) for wish in day[5] if wish[:2] == (place, hour)), Fraction(0))
            for place in day[0] for hour in range(day[1])]


class Own(DayShare):

    def test_what_is_told(self):
        for day in (LONE, DAY, put(DAY, [5, 0, 2], (50, 1)), great_day(Dice(114)), great_day(Dice(115), 100)):
            check_own(self, lambda: day_share(day))

    def test_what_was_told_may_be_handed_in_again(self):
        share, book = day_share(DAY)
        self.assertIs(adds_up(DAY, book, share), True)
        self.assertIs(adds_up(DAY, BOOK, share), True)
        self.assertIs(adds_up(DAY, day_noughts(DAY), share), False)


if __name__ == "__main__":
    unittest.main()
