"""Promises [2] and [3]: what a fraction is, and how fractions are reckoned with."""

import unittest

from gainroads.fractions import (
    added, compared, fraction, greatest, is_fraction, least, over, sum_of, taken, times)
from helpers import JUNK, as_fraction, as_pair, fraction_ok, frozen, variants

HUGE = 10 ** 400 + 1
SOME = [(0, 1), (1, 1), (-1, 1), (1, 2), (-1, 2), (2, 3), (-7, 3), (60, 59), (5, 1), (10 ** 9, 999),
        (HUGE, 10 ** 400), (-HUGE, 3), (1, HUGE), (10 ** 400 - 1, 10 ** 400)]


class IsFraction(unittest.TestCase):

    def test_fractions(self):
        for thing in SOME:
            self.assertIs(is_fraction(thing), True, thing)

    def test_not_in_lowest_terms(self):
        for thing in ((2, 4), (0, 2), (-3, 9), (6, 3), (10, 10), (2 * HUGE, 2 * 10 ** 400)):
            self.assertIs(is_fraction(thing), False)

    def test_divisors_below_one(self):
        for thing in ((1, 0), (0, 0), (1, -1), (-1, -2), (0, -1)):
            self.assertIs(is_fraction(thing), False, thing)

    def test_truths_and_texts_are_no_numbers(self):
        for thing in ((True, 1), (1, True), (False, 1), (True, True), (True, 2), ("1", 2), (1, "2"), (None, 1)):
            self.assertIs(is_fraction(thing), False, thing)

    def test_other_kinds_and_lengths(self):
        for thing in ([1, 2], (), (1,), (1, 2, 3), "12", "ab", 3, True, None, [], ((1, 2),), ((1, 2), (1, 2))):
            self.assertIs(is_fraction(thing), False, thing)

    def test_anything(self):
        for thing in JUNK + list(variants((3, 4))) + list(variants((0, 1))):
            self.assertIs(is_fraction(thing), fraction_ok(thing), thing)


class Reckoning(unittest.TestCase):

    def told(self, value, expected):
        """Equal, and a fraction in lowest terms of plain numbers."""
        self.assertEqual(frozen(value), frozen(as_pair(expected)))

    def test_fraction(self):
        for n, d, expected in ((6, 4, (3, 2)), (0, 5, (0, 1)), (0, -5, (0, 1)), (1, -2, (-1, 2)), (-4, -6, (2, 3)),
                               (8, 2, (4, 1)), (-8, 2, (-4, 1)), (7, 1, (7, 1)), (2 * HUGE, 2, (HUGE, 1)),
                               (-HUGE, -HUGE, (1, 1)), (HUGE, -3 * HUGE, (-1, 3))):
            self.assertEqual(frozen(fraction(n, d)), frozen(expected))

    def test_by_hand(self):
        self.assertEqual(added((1, 2), (1, 3)), (5, 6))
        self.assertEqual(added((1, 2), (-1, 2)), (0, 1))
        self.assertEqual(taken((1, 2), (2, 3)), (-1, 6))
        self.assertEqual(times((2, 3), (3, 2)), (1, 1))
        self.assertEqual(times((-2, 3), (0, 1)), (0, 1))
        self.assertEqual(over((1, 2), (-3, 4)), (-2, 3))
        self.assertEqual(over((0, 1), (-3, 4)), (0, 1))

    def test_each_two(self):
        for one in SOME:
            for other in SOME:
                a, b = as_fraction(one), as_fraction(other)
                self.told(added(one, other), a + b)
                self.told(taken(one, other), a - b)
                self.told(times(one, other), a * b)
                if b != 0:
                    self.told(over(one, other), a / b)
                self.assertEqual(frozen(compared(one, other)), frozen((a > b) - (a < b)))

    def test_compared(self):
        self.assertEqual(compared((1, 3), (1, 2)), -1)
        self.assertEqual(compared((1, 2), (1, 2)), 0)
        self.assertEqual(compared((-1, 3), (-1, 2)), 1)
        self.assertEqual(compared((10 ** 400 - 1, 10 ** 400), (1, 1)), -1)
        self.assertEqual(compared((HUGE, 10 ** 400), (1, 1)), 1)

    def test_sum_of(self):
        self.assertEqual(sum_of([]), (0, 1))
        self.assertEqual(sum_of([(-3, 7)]), (-3, 7))
        self.assertEqual(sum_of([(1, 2), (1, 3), (1, 6)]), (1, 1))
        self.told(sum_of(SOME), sum(as_fraction(one) for one in SOME))

    def test_greatest_and_least(self):
        self.assertEqual(greatest([(-3, 7)]), (-3, 7))
        self.assertEqual(least([(-3, 7)]), (-3, 7))
        # In another order than the tuples themselves have.
        self.assertEqual(greatest([(1, 2), (2, 3), (3, 5)]), (2, 3))
        self.assertEqual(least([(2, 3), (3, 7), (1, 2)]), (3, 7))
        self.assertEqual(greatest([(-5, 1), (-1, 2), (-2, 1)]), (-1, 2))
        for at in range(len(SOME)):
            turned = SOME[at:] + SOME[:at]
            self.told(greatest(turned), max(as_fraction(one) for one in SOME))
            self.told(least(turned), min(as_fraction(one) for one in SOME))

    def test_lists_stay_as_they_were(self):
        for ask in (sum_of, greatest, least):
            parts = [(3, 2), (1, 2), (5, 2), (1, 2)]
            before = frozen(parts)
            told = ask(parts)
            self.assertEqual(frozen(parts), before)
            self.assertEqual(ask(parts), told)


if __name__ == "__main__":
    unittest.main()
