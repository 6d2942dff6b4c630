"""Promises [1], [2] and [18]: days and books."""

import unittest
from fractions import Fraction

from gainroads.days import adds_up, day_price, hour_sum, is_book, is_day
from helpers import (JUNK, DayDrawing, Dice, adds_ok, as_fraction, as_pair, book_ok, check_own, copied, day_noughts,
                     day_ok, frozen, great_day, hour_sums, paid, put, some_day, variants)

GAINS = [(1, 2), (1, 1), (2, 1), (3, 4), (60, 59), (4, 3)]
LONE = (("a",), 1, (), (), (), ())
DAY = (("mill", "town"), 3, (
    ("mill", "town", (4, 1), (1, 2), (1, 1), 1, (0, 1)),
    ("town", "mill", (2, 1), (1, 1), (1, 3), 0, (0, 1, 2)),
), (
    ("mill", (5, 1), (1, 2)), ("town", (3, 1), (1, 1)),
), (
    ("mill", 0, (6, 1), (1, 1)), ("mill", 1, (2, 1), (3, 1)), ("town", 2, (1, 1), (0, 1)),
), (
    ("town", 1, (1, 1)), ("town", 2, (3, 2)),
))
# 6 are drawn at first, of which 4 come as 2, and 2 are kept as 1; of the 2 that come 1 is kept.
BOOK = ([[(4, 1), (1, 1), (0, 1)], [(0, 1), (0, 1), (0, 1)]],
        [[(2, 1), (0, 1), (0, 1)], [(0, 1), (1, 1), (0, 1)]],
        [(6, 1), (0, 1), (0, 1)])


class IsDay(unittest.TestCase):

    def told(self, thing, expected):
        self.assertIs(is_day(thing), expected, thing)

    def test_days(self):
        for day in (LONE, DAY, put(LONE, [1], 8), (("a", "b"), 8, (), (), (), ())):
            self.told(day, True)

    def test_each_maybe_empty(self):
        for at in (2, 3, 4, 5):
            self.told(put(DAY, [at], ()), True)

    def test_several_at_the_same_place_and_hour(self):
        for at in (2, 4, 5):
            self.told(put(DAY, [at], (DAY[at][0],) * 3), True)

    def test_bounds_are_no_matter(self):
        self.told((tuple("abcdefghijkl"), 10 ** 30, (("a", "b", (10 ** 40, 1), (1, 10 ** 40), (1, 1), 10 ** 40,
                                                      (0, 7, 10 ** 29)),) * 40,
                   tuple((place, (1, 1), (10 ** 40, 10 ** 40 + 1)) for place in "abcdefghijkl"),
                   (("a", 10 ** 30 - 1, (1, 1), (1, 1)),) * 40, (("a", 10 ** 30 - 1, (1, 10 ** 40)),) * 40), True)

    def test_places(self):
        for places in ((), ("a", "a"), ("A",), ("",), ("abcdefghi",), ("a1",), ("a b",), ("a\n",), ["a"], "a", None,
                       (None,), (1,), (True,), (("a",),), ("a", 1), ("\u00e4",)):
            self.told(put(LONE, [0], places), False)
        self.told(put(LONE, [0], ("abcdefgh", "z")), True)

    def test_hours(self):
        for hours in (0, -1, True, False, "1", None, (1, 1), [1], (1,), "", ()):
            self.told(put(LONE, [1], hours), False)
        for hours in (1, 2, 8, 9, 10 ** 20):
            self.told(put(LONE, [1], hours), True)
        # What stands in an hour that is no longer there is wrong.
        self.told(put(DAY, [1], 2), False)
        self.told(put(DAY, [1], 4), True)

    def test_ties(self):
        for at, wrongs in (
                (0, ("town", "sea", None, 0, True, ("mill",), ["mill"], "")), (1, ("mill", "sea", None, 1, ("town",))),
                (2, ((-1, 1), 4, (8, 2), [4, 1], "4", True, None, (True, 1), (4, True), (4,), (4, 1, 1), (1, 0))),
                (3, ((0, 1), (-1, 2), 1, (2, 4), [1, 2], "1/2", None, (1, True))),
                (4, ((-1, 1), 1, (2, 2), [1, 1], None, True)),
                (5, (-1, True, False, None, "1", (1, 1), [1], ())),
                (6, ((1, 0), (0, 0), (0, 1, 1), (3,), (0, 3), (-1,), (-1, 0), [0, 1], [], 0, None, "01", ("0",),
                     (True,), (0, True), (False, 1), ((0, 1),), (None,), (0, (1,)), ([],)))):
            for wrong in wrongs:
                self.told(put(DAY, [2, 0, at], wrong), False)
        for at, right in ((2, (0, 1)), (3, (1, 60)), (4, (0, 1)), (5, 0), (5, 3), (5, 10 ** 20), (6, ()), (6, (2,)),
                          (6, (0, 1, 2)), (6, (0, 2))):
            self.told(put(DAY, [2, 0, at], right), True)
        tie = DAY[2][0]
        for wrong in (tie[:6], tie + (0,), list(tie), (), None, tie[:5], "tie"):
            self.told(put(DAY, [2, 0], wrong), False)

    def test_stores(self):
        for at, wrongs in (
                (0, ("sea", None, 0, True, ("mill",), ["mill"])), (1, ((-1, 1), 5, (10, 2), [5, 1], None, (5, True))),
                (2, ((-1, 2), (3, 2), (1001, 1000), (2, 1), (2, 4), 1, 0, True, [1, 2], "1/2", None, (True, 1)))):
            for wrong in wrongs:
                self.told(put(DAY, [3, 0, at], wrong), False)
        for at, right in ((1, (0, 1)), (2, (0, 1)), (2, (1, 1)), (2, (999, 1000))):
            self.told(put(DAY, [3, 0, at], right), True)
        store = DAY[3][0]
        for wrong in (store[:2], store + ((0, 1),), list(store), (), None):
            self.told(put(DAY, [3, 0], wrong), False)

    def test_no_place_has_two_stores(self):
        self.told(put(DAY, [3, 1, 0], "mill"), False)
        self.told(put(DAY, [3], (("mill", (5, 1), (1, 2)), ("mill", (1, 1), (1, 1)))), False)
        self.told(put(DAY, [3], DAY[3] + (DAY[3][0],)), False)
        self.told(put(DAY, [3], DAY[3][::-1]), True)

    def test_wells(self):
        for at, wrongs in (
                (0, ("sea", None, 0, True, ("mill",))), (1, (3, -1, True, False, None, "0", (0, 1), [0])),
                (2, ((-1, 1), 6, (12, 2), [6, 1], None, True)), (3, ((-1, 1), 1, (2, 2), [1, 1], None, (1, True)))):
            for wrong in wrongs:
                self.told(put(DAY, [4, 0, at], wrong), False)
        for at, right in ((1, 2), (2, (0, 1)), (3, (0, 1))):
            self.told(put(DAY, [4, 0, at], right), True)
        well = DAY[4][0]
        for wrong in (well[:3], well + ((0, 1),), list(well), (), None):
            self.told(put(DAY, [4, 0], wrong), False)

    def test_wishes(self):
        for at, wrongs in (
                (0, ("sea", None, 0, ("town",))), (1, (3, -1, True, False, None, "1", (1, 1))),
                (2, ((0, 1), (-1, 1), 1, (2, 2), [1, 1], None, True, (0, 2)))):
            for wrong in wrongs:
                self.told(put(DAY, [5, 0, at], wrong), False)
        for at, right in ((1, 0), (1, 2), (2, (1, 1000))):
            self.told(put(DAY, [5, 0, at], right), True)
        wish = DAY[5][0]
        for wrong in (wish[:2], wish + ((0, 1),), list(wish), (), None):
            self.told(put(DAY, [5, 0], wrong), False)

    def test_lists_for_tuples(self):
        for at in (0, 2, 3, 4, 5):
            self.told(put(DAY, [at], list(DAY[at])), False)
        for wrong in (list(DAY), DAY[:5], DAY + ((),), (), None, "day", 3, True):
            self.told(wrong, False)

    def test_anything(self):
        for day in (LONE, DAY):
            for thing in variants(day):
                self.told(thing, day_ok(thing))

    def test_by_the_dice(self):
        dice = Dice(101)
        for _ in range(60):
            day = some_day(dice, (5, 8, 8, 4, 10, 10), GAINS)
            self.assertTrue(day_ok(day))
            self.told(day, True)
        self.told(great_day(dice), True)


class IsBook(unittest.TestCase):

    def told(self, thing, expected, day=DAY):
        self.assertIs(is_book(day, thing), expected, thing)

    def test_books(self):
        self.told(BOOK, True)
        self.told(day_noughts(DAY), True)
        self.told(([], [], []), True, LONE)
        # All at the mosts, where something may be sent at all; behind the last hour is kept too.
        self.told(([[(4, 1), (4, 1), (0, 1)], [(2, 1)] * 3], [[(5, 1)] * 3, [(3, 1)] * 3], [(6, 1), (2, 1), (1, 1)]),
                  True)

    def test_adding_up_is_no_matter(self):
        self.told(put(day_noughts(DAY), [0, 0, 0], (4, 1)), True)

    def test_a_little_more_than_a_most(self):
        for path, most in (([0, 0, 0], 4), ([0, 0, 1], 4), ([0, 1, 2], 2), ([1, 0, 0], 5), ([1, 1, 2], 3), ([2, 0], 6),
                           ([2, 2], 1)):
            self.told(put(BOOK, path, (most, 1)), True)
            self.told(put(BOOK, path, (10 ** 40 * most - 1, 10 ** 40)), True)
            self.told(put(BOOK, path, (10 ** 40 * most + 1, 10 ** 40)), False)

    def test_below_nought(self):
        for path in ([0, 0, 0], [0, 1, 2], [1, 0, 1], [1, 1, 2], [2, 0], [2, 2], [0, 0, 2]):
            self.told(put(BOOK, path, (-1, 10 ** 40)), False)
            self.told(put(BOOK, path, (0, 1)), True)

    def test_where_nothing_may_be_sent(self):
        # Tie 0 isn't open in hour 2; open then, what is sent would still come behind the last hour.
        for much in ((1, 10 ** 40), (1, 1), (4, 1)):
            self.told(put(BOOK, [0, 0, 2], much), False)
            self.told(put(BOOK, [0, 0, 2], much), False, put(DAY, [2, 0, 6], (0, 1, 2)))
            self.told(put(BOOK, [0, 0, 2], much), True, put(put(DAY, [2, 0, 6], (0, 1, 2)), [2, 0, 5], 0))
            self.told(put(BOOK, [0, 0, 1], much), False, put(DAY, [2, 0, 5], 2))
            self.told(put(BOOK, [0, 0, 0], much), False, put(DAY, [2, 0, 5], 3))
            self.told(put(BOOK, [0, 0, 0], much), False, put(DAY, [2, 0, 5], 10 ** 20))
            self.told(put(BOOK, [0, 0, 0], much), False, put(DAY, [2, 0, 6], (1, 2)))
        self.told(put(BOOK, [0, 0], [(4, 1), (0, 1), (0, 1)]), True, put(DAY, [2, 0, 5], 2))
        self.told(put(BOOK, [0, 0], [(0, 1)] * 3), True, put(DAY, [2, 0, 5], 3))
        self.told(put(BOOK, [0, 0], [(0, 1)] * 3), True, put(DAY, [2, 0, 6], ()))
        self.told(BOOK, False, put(DAY, [2, 0, 6], ()))

    def test_nought_is_written_so(self):
        for wrong in ((0, 2), 0, False, None, (False, 1), [0, 1], "0"):
            self.told(put(BOOK, [0, 0, 2], wrong), False)
            self.told(put(BOOK, [1, 0, 2], wrong), False)

    def test_lengths(self):
        sent, kept, drawn = BOOK
        for wrong in ((sent[:1], kept, drawn), (sent + [sent[1]], kept, drawn), (sent, kept[:1], drawn),
                      (sent, kept + [kept[0]], drawn), (sent, kept, drawn[:2]), (sent, kept, drawn + [(0, 1)]),
                      (sent, kept), (sent, kept, drawn, []), (), ([], [], []), (kept, sent, drawn[::-1]),
                      ([sent[0][:2], sent[1]], kept, drawn), ([sent[0] + [(0, 1)], sent[1]], kept, drawn),
                      (sent, [kept[0], kept[1][:2]], drawn), (sent, [kept[0], kept[1] + [(0, 1)]], drawn),
                      ([sent[0], []], kept, drawn), (drawn, sent, kept)):
            self.told(wrong, False)
        self.told(([], [], [(0, 1)]), False, LONE)
        self.told(([[]], [], []), False, LONE)

    def test_kinds(self):
        sent, kept, drawn = BOOK
        for wrong in (list(BOOK), (tuple(sent), kept, drawn), (sent, tuple(kept), drawn), (sent, kept, tuple(drawn)),
                      ([tuple(sent[0]), sent[1]], kept, drawn), (sent, [tuple(kept[0]), kept[1]], drawn),
                      (sent, kept, None), (None, kept, drawn), (sent, "ab", drawn), ([sent[0], "abc"], kept, drawn)):
            self.told(wrong, False)
        for path in ([0, 0, 0], [1, 0, 0], [2, 0]):
            for wrong in (2, True, "2", None, [2, 1], (2, True), (True, 1), (4, 2), (2,), (2, 1, 1), (2, 0), (-2, -1)):
                self.told(put(BOOK, path, wrong), False)
        for wrong in JUNK:
            self.told(wrong, False)

    def test_anything(self):
        for thing in variants(BOOK):
            self.told(thing, book_ok(DAY, thing))
        for thing in variants(([], [], [])):
            self.told(thing, book_ok(LONE, thing), LONE)

    def test_of_any_size(self):
        self.told(put(BOOK, [1, 0, 0], (10 ** 90, 10 ** 90 + 1)), True)


class Sums(unittest.TestCase):

    def sums(self, day, book, share):
        return {(place, hour): hour_sum(day, book, place, hour, share) for place in day[0] for hour in range(day[1])}

    def test_by_hand(self):
        self.assertEqual(self.sums(DAY, BOOK, (1, 1)), {
            ("mill", 0): (0, 1), ("mill", 1): (0, 1), ("mill", 2): (0, 1),
            ("town", 0): (0, 1), ("town", 1): (0, 1), ("town", 2): (0, 1)})
        self.assertEqual(self.sums(DAY, BOOK, (1, 3)), {
            ("mill", 0): (0, 1), ("mill", 1): (0, 1), ("mill", 2): (0, 1),
            ("town", 0): (0, 1), ("town", 1): (2, 3), ("town", 2): (1, 1)})
        self.assertEqual(hour_sum(DAY, BOOK, "town", 2, (2, 1)), (-3, 2))
        self.assertEqual(hour_sum(DAY, BOOK, "town", 2, (-1, 1)), (3, 1))

    def test_what_was_sent_comes_so_many_hours_later_gain_times(self):
        for late in range(4):
            day = put(put(DAY, [2, 0, 5], late), [2, 0, 6], (0, 1, 2))
            for hour in range(3 - late):
                book = put(day_noughts(day), [0, 0, hour], (3, 1))
                for place, at, much in (("mill", hour, (-3, 1)), ("town", hour + late, (3, 2))):
                    for other in range(3):
                        self.assertEqual(hour_sum(day, book, place, other, (0, 1)), much if other == at else (0, 1))

    def test_what_was_kept_is_there_in_the_next_hour_keep_times(self):
        for keep in ((0, 1), (1, 1), (1, 2), (999, 1000)):
            day = put(DAY, [3, 0, 2], keep)
            for hour in range(3):
                book = put(day_noughts(day), [1, 0, hour], (3, 1))
                for other in range(3):
                    expected = -3 if other == hour else 3 * as_fraction(keep) if other == hour + 1 else 0
                    self.assertEqual(hour_sum(day, book, "mill", other, (0, 1)), as_pair(Fraction(expected)))
                    self.assertEqual(hour_sum(day, book, "town", other, (0, 1)), (0, 1))

    def test_what_is_drawn_and_wished(self):
        day = (("a", "b"), 2, (), (), (("a", 1, (2, 1), (0, 1)), ("a", 1, (3, 1), (0, 1)), ("a", 0, (1, 1), (0, 1)),
                                       ("b", 1, (1, 1), (0, 1))),
               (("a", 1, (4, 1)), ("a", 1, (1, 3)), ("b", 0, (5, 1))))
        book = ([], [], [(2, 1), (1, 2), (1, 1), (1, 7)])
        self.assertEqual(self.sums(day, book, (1, 2)), {
            ("a", 0): (1, 1), ("a", 1): as_pair(Fraction(5, 2) - Fraction(13, 6)), ("b", 0): (-5, 2), ("b", 1): (1, 7)})

    def test_adds_up(self):
        for share, expected in (((1, 1), True), ((0, 1), True), ((1, 2), True), ((10 ** 40 + 1, 10 ** 40), False),
                                ((2, 1), False), ((-1, 1), True)):
            self.assertIs(adds_up(DAY, BOOK, share), expected, share)
        self.assertIs(adds_up(DAY, day_noughts(DAY), (0, 1)), True)
        self.assertIs(adds_up(DAY, day_noughts(DAY), (1, 10 ** 40)), False)
        self.assertIs(adds_up(LONE, ([], [], []), (1, 1)), True)

    def test_what_is_more_runs_off(self):
        more = put(BOOK, [2], [(6, 1), (2, 1), (1, 1)])
        self.assertIs(adds_up(DAY, more, (1, 1)), True)
        self.assertIs(adds_up(DAY, put(more, [2, 0], (10 ** 40 * 6 - 1, 10 ** 40)), (1, 1)), False)
        # What runs off isn't there in the next hour: only what is kept is.
        day = (("a",), 2, (), (("a", (9, 1), (1, 1)),), (("a", 0, (2, 1), (0, 1)),), (("a", 1, (1, 1)),))
        self.assertIs(adds_up(day, ([], [[(0, 1), (0, 1)]], [(2, 1)]), (1, 1)), False)
        self.assertIs(adds_up(day, ([], [[(1, 1), (0, 1)]], [(2, 1)]), (1, 1)), True)

    def test_a_round_in_one_hour_makes_from_nothing(self):
        day = (("a", "b"), 1, (
            ("a", "b", (3, 1), (2, 1), (0, 1), 0, (0,)), ("b", "a", (9, 1), (1, 1), (0, 1), 0, (0,))),
            (), (), (("a", 0, (3, 1)),))
        self.assertIs(adds_up(day, ([[(3, 1)], [(6, 1)]], [], []), (1, 1)), True)
        self.assertIs(adds_up(put(day, [2, 1, 5], 1), ([[(3, 1)], [(6, 1)]], [], []), (1, 1)), False)

    def test_it_adds_up_but_is_no_book(self):
        # A little more than a most, below nought, not open, too late.
        day = (("a",), 1, (), (), (("a", 0, (1, 1), (0, 1)),), (("a", 0, (2, 1)),))
        self.assertIs(adds_up(day, ([], [], [(2, 1)]), (1, 1)), False)
        self.assertIs(adds_up(put(day, [4, 0, 2], (2, 1)), ([], [], [(2, 1)]), (1, 1)), True)
        day = (("a", "b"), 2, (("a", "b", (9, 1), (1, 1), (0, 1), 0, (0, 1)),), (), (("a", 0, (9, 1), (0, 1)),), ())
        self.assertIs(adds_up(day, ([[(1, 1), (0, 1)]], [], [(1, 1)]), (1, 1)), True)
        self.assertIs(adds_up(day, ([[(1, 1), (-1, 1)]], [], [(1, 1)]), (0, 1)), False)
        self.assertIs(adds_up(put(day, [2, 0, 6], (1,)), ([[(1, 1), (0, 1)]], [], [(1, 1)]), (1, 1)), False)
        self.assertIs(adds_up(put(day, [2, 0, 5], 2), ([[(1, 1), (0, 1)]], [], [(1, 1)]), (1, 1)), False)
        self.assertIs(adds_up(put(day, [2, 0, 5], 1), ([[(1, 1), (0, 1)]], [], [(1, 1)]), (1, 1)), True)

    def test_anything(self):
        for thing in JUNK + [list(BOOK), BOOK[:2], BOOK + ([],)]:
            self.assertIs(adds_up(DAY, thing, (0, 1)), False)
        for thing in variants(BOOK):
            self.assertIs(adds_up(DAY, thing, (1, 1)), adds_ok(DAY, thing, (1, 1)), thing)

    def test_day_price(self):
        self.assertEqual(day_price(DAY, BOOK), (11, 1))
        self.assertEqual(day_price(DAY, day_noughts(DAY)), (0, 1))
        self.assertEqual(day_price(LONE, ([], [], [])), (0, 1))
        book = ([[(1, 2), (1, 1), (0, 1)], [(2, 1), (1, 1), (1, 5)]], [[(5, 1)] * 3, [(3, 1)] * 3],
                [(1, 1), (1, 7), (1, 1)])
        expected = Fraction(3, 2) + Fraction(16, 15) + 1 + Fraction(3, 7)
        self.assertEqual(day_price(DAY, book), as_pair(expected))

    def test_by_the_dice(self):
        dice = Dice(102)
        seen = {True: 0, False: 0}
        for _ in range(120):
            day = some_day(dice, (4, 6, 8, 4, 8, 4), GAINS)
            drawn, book = DayDrawing(dice, day).draw(8)
            self.assertIs(is_book(day, book), True)
            self.assertIs(adds_up(day, book, drawn), True)
            self.assertEqual(frozen(day_price(day, book)), frozen(as_pair(paid(day, book))))
            for share in (drawn, (0, 1), (1, 1), as_pair(as_fraction(drawn) + Fraction(1, 10 ** 30))):
                expected = hour_sums(day, book, share)
                for (place, hour), much in expected.items():
                    self.assertEqual(frozen(hour_sum(day, book, place, hour, share)), frozen(as_pair(much)))
                self.assertIs(adds_up(day, book, share), min(expected.values()) >= 0)
                seen[min(expected.values()) >= 0] += 1
        self.assertGreater(min(seen.values()), 60)

    def test_what_is_handed_in(self):
        check_own(self, lambda book: is_book(DAY, book), copied(BOOK))
        check_own(self, lambda book: hour_sum(DAY, book, "town", 2, (1, 3)), copied(BOOK))
        check_own(self, lambda book: adds_up(DAY, book, (1, 1)), copied(BOOK))
        check_own(self, lambda book: day_price(DAY, book), copied(BOOK))
        check_own(self, lambda thing: is_day(thing), list(DAY))


if __name__ == "__main__":
    unittest.main()
