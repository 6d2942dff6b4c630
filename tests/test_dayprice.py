"""Promises [1], [2] and [19]: the cheapest book of a day."""

import unittest
from fractions import Fraction

from gainroads.dayprice import cheapest_day
from gainroads.days import adds_up, day_price
from gainroads.dayshare import day_share
from gainroads.errors import GainError, Short
from helpers import (DayDrawing, Dice, adds_ok, as_fraction, as_pair, check_own, corners_of, day_rows, fraction_ok,
                     frozen, great_day, hour_sums, paid, put, some_day)
from test_days import DAY, GAINS, LONE


class CheapestDay(unittest.TestCase):

    def price(self, day):
        """The price, which the book has that adds up by 1."""
        told = cheapest_day(day)
        self.assertIs(type(told), tuple)
        price, book = told
        self.assertTrue(fraction_ok(price))
        self.assertIs(adds_up(day, book, (1, 1)), True)
        self.assertTrue(adds_ok(day, book, (1, 1)))
        self.assertEqual(day_price(day, book), price)
        self.assertEqual(paid(day, book), as_fraction(price))
        return price

    def short(self, day):
        """The share with which it is refused, by its own class alone."""
        for _ in range(2):
            with self.assertRaises(GainError) as caught:
                cheapest_day(day)
            self.assertIs(type(caught.exception), Short)
            self.assertEqual(frozen(caught.exception.share), frozen(day_share(day)[0]))
        return caught.exception.share


class ByHand(CheapestDay):

    def test_mill_and_town(self):
        # 3 are drawn and sent at first, 1/2 is kept in the town, where the well of hour 2 costs nothing.
        self.assertEqual(self.price(DAY), (6, 1))
        self.assertEqual(cheapest_day(DAY)[1][2], [(3, 1), (0, 1), (1, 1)])
        # Without a store in the town 1 is sent in hour 1: 2 are drawn and kept in the mill for 2, and that for 3.
        self.assertEqual(self.price(put(DAY, [3], DAY[3][:1])), (7, 1))
        self.assertEqual(self.price(put(DAY, [3], ())), (8, 1))

    def test_without_anything(self):
        self.assertEqual(cheapest_day(LONE), ((0, 1), ([], [], [])))

    def test_without_wishes(self):
        self.assertEqual(self.price(put(DAY, [5], ())), (0, 1))

    def test_without_ties_stores_or_wells(self):
        self.assertEqual(self.short(put(DAY, [2], ())), (0, 1))
        self.assertEqual(self.short(put(DAY, [4], ())), (0, 1))
        day = (("a",), 8, (), (), (("a", 3, (2, 1), (5, 2)),), (("a", 3, (1, 3)),))
        self.assertEqual(self.price(day), (5, 6))

    def test_short(self):
        day = put(DAY, [5], (("town", 1, (2, 1)), ("town", 2, (5, 1))))
        self.assertEqual(self.short(day), (9, 14))
        self.assertEqual(self.short(put(DAY, [5], (("town", 0, (1, 1)),))), (0, 1))

    def test_just_met(self):
        hair = 10 ** 30
        for amount, met in (((3, 1), True), ((3 * hair - 1, hair), True), ((3 * hair + 1, hair), False)):
            day = (("a",), 1, (), (), (("a", 0, (1, 1), (0, 1)), ("a", 0, (2, 1), (7, 1))), (("a", 0, amount),))
            if met:
                self.assertEqual(self.price(day), as_pair((as_fraction(amount) - 1) * 7))
            else:
                self.assertEqual(self.short(day), (3 * hair, 3 * hair + 1))

    def test_wells_of_price_nought(self):
        day = (("a",), 2, (), (("a", (9, 1), (1, 2)),), (("a", 1, (3, 1), (1, 1)), ("a", 0, (4, 1), (0, 1))),
               (("a", 1, (3, 1)),))
        self.assertEqual(self.price(day), (1, 1))
        self.assertEqual(self.price(put(day, [4, 1, 2], (6, 1))), (0, 1))
        self.assertEqual(self.price(put(day, [3, 0, 2], (0, 1))), (3, 1))
        self.assertEqual(self.price(put(day, [3, 0, 2], (1, 1))), (0, 1))
        # A dear well ahead of a store that leaks isn't drawn.
        self.assertEqual(self.price(put(day, [4, 1, 3], (1, 1))), (3, 1))
        self.assertEqual(self.price(put(day, [4, 1, 3], (1, 4))), (2, 1))

    def test_several_ties_with_prices(self):
        day = (("a", "b", "c"), 3, (
            ("a", "b", (1, 1), (1, 1), (1, 1), 0, (0, 1, 2)), ("a", "b", (9, 1), (1, 1), (3, 1), 0, (0, 1, 2)),
            ("b", "c", (9, 1), (2, 1), (0, 1), 1, (0, 1, 2)), ("a", "c", (9, 1), (1, 1), (1, 1), 2, (0, 1, 2))),
            (), (("a", 1, (9, 1), (1, 1)), ("a", 0, (1, 1), (1, 1))), (("c", 2, (6, 1)),))
        # For each at c: by b with the cheap tie 2/2, by the way that is long, of which 1 can be drawn, 2, then 4/2.
        self.assertEqual(self.price(day), (10, 1))
        self.assertEqual(self.price(put(day, [5, 0, 2], (2, 1))), (2, 1))
        self.assertEqual(self.price(put(day, [2, 2, 3], (1, 1))), (20, 1))

    def test_a_shut_tie_is_not_used(self):
        day = (("a", "b"), 2, (
            ("a", "b", (9, 1), (1, 1), (1, 1), 0, (0, 1)), ("a", "b", (9, 1), (1, 1), (5, 1), 1, (0,))),
            (("a", (9, 1), (1, 1)),), (("a", 0, (9, 1), (0, 1)),), (("b", 1, (2, 1)),))
        self.assertEqual(self.price(day), (2, 1))
        self.assertEqual(self.price(put(day, [2, 0, 6], (0,))), (10, 1))
        self.assertEqual(self.short(put(put(day, [2, 0, 6], ()), [2, 1, 6], (1,))), (0, 1))

    def test_met_more_than_once_over(self):
        day = (("a", "b"), 8, (("a", "b", (10 ** 9, 1), (60, 1), (1, 1), 1, tuple(range(8))),), (),
               (("a", 6, (10 ** 9, 1), (2, 1)),), (("b", 7, (1, 7)),))
        self.assertEqual(self.price(day), (1, 140))

    def test_a_share_below_one_is_short_however_dear(self):
        day = (("a",), 1, (), (), (("a", 0, (2, 1), (10 ** 9, 1)),), (("a", 0, (2, 1)),))
        self.assertEqual(self.price(day), (2 * 10 ** 9, 1))
        self.assertEqual(self.short(put(day, [5, 0, 2], (2001, 1000))), (2000, 2001))


class ByTheDice(CheapestDay):

    def test_all_corners(self):
        dice = Dice(121)
        tried = paying = 0
        while tried < 40:
            day = some_day(dice, (2, 2, 3, 1, 3, 2), GAINS)
            names, rows = day_rows(day)
            if len(rows) > 2 or len(names) > 6 or day[5] == () or day_share(day)[0] != (1, 1):
                continue
            tried += 1
            empty = ([[(0, 1)] * day[1] for _ in day[2]], [[(0, 1)] * day[1] for _ in day[3]], [(0, 1)] * len(day[4]))
            wishes = list(hour_sums(day, empty, (1, 1)).values())
            rows = [row + [-Fraction(at == other) for other in range(len(rows))] for at, row in enumerate(rows)]
            mosts = [most for name, most in names] + [Fraction(1000)] * len(rows)
            costs = [as_fraction(day[2 if name[0] == "sent" else 4][name[1]][4 if name[0] == "sent" else 3])
                     if name[0] != "kept" else Fraction(0) for name, most in names]
            best = min(sum(cost * much for cost, much in zip(costs, amounts))
                       for amounts in corners_of(rows, [-wish for wish in wishes], mosts))
            self.assertEqual(as_fraction(self.price(day)), best, day)
            paying += best > 0
        self.assertGreater(paying, 8)

    def test_no_drawn_book_is_cheaper(self):
        dice = Dice(122)
        met = dearer = shorts = 0
        for turn in range(250):
            day = some_day(dice, (5, 8, 8, 4, 10, 4) if turn % 4 == 0 else (3, 4, 6, 3, 8, 2), GAINS)
            share = day_share(day)[0]
            if share != (1, 1):
                self.assertEqual(self.short(day), share)
                shorts += 1
                continue
            best = as_fraction(self.price(day))
            for _ in range(4):
                drawn, book = DayDrawing(dice, day).draw(12)
                if drawn == (1, 1) and day[5] != ():
                    self.assertIs(adds_up(day, book, (1, 1)), True)
                    self.assertGreaterEqual(as_fraction(day_price(day, book)), best)
                    met += 1
                    dearer += as_fraction(day_price(day, book)) > best
        self.assertGreater(min(met, shorts, dearer), 20, (met, shorts, dearer))

    def test_at_the_bounds(self):
        dice = Dice(123)
        seen = {"met": 0, "short": 0}
        for turn in range(10):
            day = great_day(dice, (1, 10 ** 4)[turn % 2])
            if day_share(day)[0] == (1, 1):
                best = as_fraction(self.price(day))
                seen["met"] += 1
                drawn, book = DayDrawing(dice, day).draw(40)
                if drawn == (1, 1):
                    self.assertGreaterEqual(paid(day, book), best)
            else:
                self.short(day)
                seen["short"] += 1
        self.assertGreater(min(seen.values()), 2, seen)


class Own(CheapestDay):

    def test_what_is_told(self):
        for day in (LONE, DAY, put(DAY, [5], ())):
            check_own(self, lambda: cheapest_day(day))

    def test_a_refusal_changes_nothing(self):
        day = put(DAY, [5], (("town", 1, (2, 1)), ("town", 2, (5, 1))))
        before = frozen((day, day_share(day)))
        self.short(day)
        self.assertEqual(frozen((day, day_share(day))), before)


if __name__ == "__main__":
    unittest.main()
