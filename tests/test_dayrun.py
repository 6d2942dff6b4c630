"""Promises [1], [2] and [21]: a day gone through hour by hour."""

import unittest
from fractions import Fraction

from gainroads.dayprice import cheapest_day
from gainroads.dayrun import DayRun
from gainroads.days import adds_up, day_price, is_book, is_day
from gainroads.dayshare import day_share
from gainroads.errors import AsItIs, GainError, Lacking, NoTie, Over, TooMuch
from helpers import (Dice, as_fraction, as_pair, book_ok, check_own, copied, day_noughts, day_ok, frozen, great_day,
                     hour_sums, paid, put, some_day, spoil)
from test_days import BOOK, DAY, GAINS, LONE

SIZES = (4, 6, 7, 4, 8, 2)


def hour_of(day, book, hour):
    """What pass_hour is handed to do what a book has in an hour."""
    return ([row[hour] for row in book[0]], [row[hour] for row in book[1]],
            [much if well[1] == hour else (0, 1) for much, well in zip(book[2], day[4])])


def shown(run, day):
    """All that a DayRun tells of how it stands."""
    return frozen([run.now(), [run.stored(place) for place in day[0]], run.coming(),
                   [run.is_open(number) for number in range(len(day[2]))], run.book(), run.rest()])


def passed(day, book, hours):
    """A DayRun behind so many hours of a book."""
    run = DayRun(day)
    for hour in range(hours):
        run.pass_hour(*hour_of(day, book, hour))
    return run


class Model:
    """A DayRun once more: the deeds as they came, done anew for each question, by Fractions."""

    def __init__(self, day):
        self.day, self.done = day, []

    def stand(self):
        hours = [given for name, given in self.done if name == "pass_hour"]
        shuts = [False] * len(self.day[2])
        for name, given in self.done:
            if name != "pass_hour":
                shuts[given[0]] = name == "shut"
        return hours, shuts

    def book(self):
        hours = self.stand()[0]
        book = day_noughts(self.day)
        for hour, (sent, kept, drawn) in enumerate(hours):
            for number, much in enumerate(sent):
                book[0][number][hour] = much
            for number, much in enumerate(kept):
                book[1][number][hour] = much
            for number, much in enumerate(drawn):
                if self.day[4][number][1] == hour:
                    book[2][number] = much
        return book

    def stored(self, place):
        hours = self.stand()[0]
        for number, (spot, most, keep) in enumerate(self.day[3]):
            if spot == place and hours:
                return as_pair(as_fraction(hours[-1][1][number]) * as_fraction(keep))
        return (0, 1)

    def coming(self):
        hours = self.stand()[0]
        total = {}
        for number, (begin, end, most, gain, price, late, opens) in enumerate(self.day[2]):
            for hour, given in enumerate(hours):
                if hour + late >= len(hours):
                    much = as_fraction(given[0][number]) * as_fraction(gain)
                    total[hour + late, end] = total.get((hour + late, end), Fraction(0)) + much
        return sorted((hour, place, as_pair(much)) for (hour, place), much in total.items() if much > 0)

    def is_open(self, number):
        hours, shuts = self.stand()
        return len(hours) in self.day[2][number][6] and not shuts[number]

    def rest(self):
        hours, shuts = self.stand()
        now = len(hours)
        if now == self.day[1]:
            return None
        ties = tuple(tie[:6] + (() if shut else tuple(hour - now for hour in tie[6] if hour >= now),)
                     for tie, shut in zip(self.day[2], shuts))
        wells = [(well[0], well[1] - now) + well[2:] for well in self.day[4] if well[1] >= now]
        wells += [(place, 0, self.stored(place), (0, 1)) for place in self.day[0] if self.stored(place)[0] > 0]
        wells += [(place, hour - now, much, (0, 1)) for hour, place, much in self.coming()]
        wishes = tuple((wish[0], wish[1] - now, wish[2]) for wish in self.day[5] if wish[1] >= now)
        return (self.day[0], self.day[1] - now, ties, self.day[3], tuple(wells), wishes)

    def shown(self):
        hours = self.stand()[0]
        return frozen([len(hours), [self.stored(place) for place in self.day[0]], self.coming(),
                       [self.is_open(number) for number in range(len(self.day[2]))], self.book(), self.rest()])

    def refusal(self, name, given):
        """The class and the field of what is refused, None where nothing is."""
        hours, shuts = self.stand()
        if name != "pass_hour":
            if not 0 <= given[0] < len(shuts):
                return NoTie, None
            return (AsItIs, None) if shuts[given[0]] == (name == "shut") else None
        now = len(hours)
        if now == self.day[1]:
            return Over, None
        sent, kept, drawn = given
        for number, (much, tie) in enumerate(zip(sent, self.day[2])):
            if not 0 <= as_fraction(much) <= as_fraction(tie[2]):
                return TooMuch, None
            if as_fraction(much) != 0 and (not self.is_open(number) or now + tie[5] > self.day[1] - 1):
                return TooMuch, None
        for much, store in zip(kept, self.day[3]):
            if not 0 <= as_fraction(much) <= as_fraction(store[1]):
                return TooMuch, None
        for much, well in zip(drawn, self.day[4]):
            if not 0 <= as_fraction(much) <= as_fraction(well[2]) or as_fraction(much) != 0 and well[1] != now:
                return TooMuch, None
        then = Model(self.day)
        then.done = self.done + [(name, given)]
        sums = hour_sums(self.day, then.book(), (1, 1))
        for place in self.day[0]:
            if sums[place, now] < 0:
                return Lacking, place
        return None


class DayRunTest(unittest.TestCase):

    def refused(self, run, day, kind, ask):
        """Refused with just that class, and nothing is changed by it."""
        before = shown(run, day)
        for _ in range(2):
            with self.assertRaises(GainError) as caught:
                ask()
            self.assertIs(type(caught.exception), kind)
            self.assertEqual(shown(run, day), before)
        return caught.exception


class Hours(DayRunTest):

    def test_at_first(self):
        run = DayRun(DAY)
        self.assertEqual(run.now(), 0)
        self.assertEqual([run.stored("mill"), run.stored("town")], [(0, 1), (0, 1)])
        self.assertEqual(run.coming(), [])
        self.assertEqual([run.is_open(0), run.is_open(1)], [True, True])
        self.assertEqual(frozen(run.book()), frozen(day_noughts(DAY)))
        self.assertEqual(frozen(run.rest()), frozen(DAY))
        self.assertIs(run.back(), False)

    def test_through_a_day(self):
        run = DayRun(DAY)
        self.assertIsNone(run.pass_hour(*hour_of(DAY, BOOK, 0)))
        self.assertEqual(run.now(), 1)
        self.assertEqual([run.stored("mill"), run.stored("town")], [(1, 1), (0, 1)])
        self.assertEqual(frozen(run.coming()), frozen([(1, "town", (2, 1))]))
        self.assertEqual([run.is_open(0), run.is_open(1)], [True, True])
        self.assertEqual(frozen(run.rest()), frozen((DAY[0], 2, (
            ("mill", "town", (4, 1), (1, 2), (1, 1), 1, (0,)), ("town", "mill", (2, 1), (1, 1), (1, 3), 0, (0, 1))),
            DAY[3], (("mill", 0, (2, 1), (3, 1)), ("town", 1, (1, 1), (0, 1)), ("mill", 0, (1, 1), (0, 1)),
                     ("town", 0, (2, 1), (0, 1))), (("town", 0, (1, 1)), ("town", 1, (3, 2))))))
        run.pass_hour(*hour_of(DAY, BOOK, 1))
        self.assertEqual([run.now(), run.stored("mill"), run.stored("town")], [2, (0, 1), (1, 1)])
        self.assertEqual(run.coming(), [(2, "town", (1, 2))])
        self.assertEqual([run.is_open(0), run.is_open(1)], [False, True])
        run.pass_hour(*hour_of(DAY, BOOK, 2))
        self.assertEqual(run.now(), 3)
        self.assertEqual(run.coming(), [])
        self.assertIsNone(run.rest())
        self.assertEqual([run.is_open(0), run.is_open(1)], [False, False])
        self.assertEqual(frozen(run.book()), frozen(BOOK))

    def test_one_hour_without_anything(self):
        run = DayRun(LONE)
        self.assertEqual(run.rest(), LONE)
        run.pass_hour([], [], [])
        self.assertEqual([run.now(), run.rest(), run.coming(), run.book()], [1, None, [], ([], [], [])])
        self.refused(run, LONE, Over, lambda: run.pass_hour([], [], []))
        self.assertIs(run.back(), True)
        self.assertEqual([run.now(), run.rest()], [0, LONE])

    def test_the_book_so_far(self):
        for hours in range(4):
            run = passed(DAY, BOOK, hours)
            book = run.book()
            self.assertTrue(book_ok(DAY, book))
            for row, told in zip(BOOK[0] + BOOK[1], book[0] + book[1]):
                self.assertEqual(told, row[:hours] + [(0, 1)] * (3 - hours))
        day = put(DAY, [4], DAY[4] + (("mill", 1, (1, 1), (0, 1)),))
        run = DayRun(day)
        run.pass_hour([(4, 1), (0, 1)], [(2, 1), (0, 1)], [(6, 1), (0, 1), (0, 1), (0, 1)])
        run.pass_hour([(0, 1), (0, 1)], [(0, 1), (0, 1)], [(0, 1), (1, 2), (0, 1), (1, 3)])
        self.assertEqual(run.book()[2], [(6, 1), (1, 2), (0, 1), (1, 3)])

    def test_stored_is_keep_times(self):
        for keep in ((0, 1), (1, 2), (1, 1), (999, 1000)):
            day = (("a", "b"), 2, (), (("b", (4, 1), keep), ("a", (1, 1), (1, 1))), (("b", 0, (9, 1), (0, 1)),), ())
            run = DayRun(day)
            run.pass_hour([], [(3, 1), (0, 1)], [(5, 1)])
            much = as_pair(3 * as_fraction(keep))
            self.assertEqual([run.stored("b"), run.stored("a")], [much, (0, 1)])
            self.assertEqual(run.rest()[4], () if keep == (0, 1) else (("b", 0, much, (0, 1)),))
            # Behind the last hour too it is what was kept behind the hour ahead.
            run.pass_hour([], [(0, 1), (0, 1)], [(0, 1)])
            self.assertEqual(run.stored("b"), (0, 1))
        day = (("a",), 1, (), (("a", (4, 1), (1, 2)),), (("a", 0, (4, 1), (0, 1)),), ())
        run = DayRun(day)
        run.pass_hour([], [(3, 1)], [(4, 1)])
        self.assertEqual(run.stored("a"), (3, 2))

    def test_coming_together(self):
        # Two sendings of one hour, one of the next, all come in hour 3 to c; one to b, one behind it.
        opens = tuple(range(5))
        day = (("c", "a", "b"), 5, (
            ("a", "c", (9, 1), (1, 2), (0, 1), 3, opens), ("b", "c", (9, 1), (3, 1), (0, 1), 3, opens),
            ("a", "c", (9, 1), (1, 1), (0, 1), 2, opens), ("c", "b", (9, 1), (1, 1), (0, 1), 3, opens),
            ("a", "b", (9, 1), (1, 1), (0, 1), 0, opens), ("a", "b", (9, 1), (1, 1), (0, 1), 4, opens)),
            (), tuple((place, hour, (99, 1), (0, 1)) for hour in (0, 1) for place in "abc"), ())
        run = DayRun(day)
        run.pass_hour([(1, 1), (1, 3), (0, 1), (2, 1), (5, 1), (7, 1)], [], [(99, 1)] * 3 + [(0, 1)] * 3)
        self.assertEqual(run.coming(), [(3, "b", (2, 1)), (3, "c", (3, 2)), (4, "b", (7, 1))])
        run.pass_hour([(0, 1), (0, 1), (1, 7), (0, 1), (3, 1), (0, 1)], [], [(0, 1)] * 3 + [(9, 1)] * 3)
        expected = [(3, "b", (2, 1)), (3, "c", as_pair(Fraction(3, 2) + Fraction(1, 7))), (4, "b", (7, 1))]
        self.assertEqual(frozen(run.coming()), frozen(expected))
        self.assertEqual(run.rest()[4], tuple((place, hour - 2, much, (0, 1)) for hour, place, much in expected))
        for _ in range(2):
            run.pass_hour([(0, 1)] * 6, [], [(0, 1)] * 6)
        self.assertEqual(run.coming(), [(4, "b", (7, 1))])
        run.pass_hour([(0, 1)] * 6, [], [(0, 1)] * 6)
        self.assertEqual(run.coming(), [])

    def test_stored_and_coming_at_the_same_place(self):
        day = (("b", "a"), 3, (("a", "b", (9, 1), (2, 1), (0, 1), 1, (0,)),),
               (("a", (9, 1), (1, 1)), ("b", (9, 1), (1, 2))),
               (("b", 0, (1, 1), (3, 1)), ("a", 0, (9, 1), (1, 1)), ("b", 2, (5, 1), (0, 1))), (("b", 1, (4, 1)),))
        run = DayRun(day)
        run.pass_hour([(2, 1)], [(3, 1), (1, 1)], [(1, 1), (5, 1), (0, 1)])
        rest = run.rest()
        self.assertEqual(rest, (("b", "a"), 2, (("a", "b", (9, 1), (2, 1), (0, 1), 1, ()),), day[3], (
            ("b", 1, (5, 1), (0, 1)), ("b", 0, (1, 2), (0, 1)), ("a", 0, (3, 1), (0, 1)), ("b", 0, (4, 1), (0, 1))),
            (("b", 0, (4, 1)),)))
        self.assertIs(is_day(rest), True)
        self.assertEqual(cheapest_day(rest)[0], (0, 1))


class Refusals(DayRunTest):

    def test_over(self):
        run = passed(DAY, BOOK, 3)
        # Ahead of whatever else is wrong.
        for given in (hour_of(DAY, BOOK, 0), ([(-1, 1), (9, 1)], [(99, 1)] * 2, [(9, 1)] * 3),
                      ([(0, 1)] * 2, [(0, 1)] * 2, [(0, 1)] * 3)):
            self.refused(run, DAY, Over, lambda: run.pass_hour(*given))

    def test_too_much(self):
        run = DayRun(DAY)
        right = hour_of(DAY, BOOK, 0)
        hair = 10 ** 40
        for path, most in (([0, 0], 4), ([0, 1], 2), ([1, 0], 5), ([1, 1], 3), ([2, 0], 6)):
            for much in ((-1, hair), (-1, 1), (most * hair + 1, hair), (10 ** 50, 1)):
                self.refused(run, DAY, TooMuch, lambda: run.pass_hour(*put(right, path, much)))
        for number in (1, 2):
            for much in ((1, hair), (1, 1), (-1, hair), (10 ** 9, 1)):
                self.refused(run, DAY, TooMuch, lambda: run.pass_hour(*put(right, [2, number], much)))
        run.pass_hour(*right)
        for much in ((1, hair), (6, 1)):
            self.refused(run, DAY, TooMuch, lambda: run.pass_hour(*put(hour_of(DAY, BOOK, 1), [2, 0], much)))

    def test_a_tie_that_is_not_open(self):
        run = passed(DAY, BOOK, 2)
        for much in ((1, 10 ** 40), (1, 1), (-1, 1), (99, 1)):
            self.refused(run, DAY, TooMuch, lambda: run.pass_hour(*put(hour_of(DAY, BOOK, 2), [0, 0], much)))
        run = DayRun(DAY)
        run.shut(0)
        self.refused(run, DAY, TooMuch, lambda: run.pass_hour(*hour_of(DAY, BOOK, 0)))
        run.unshut(0)
        run.pass_hour(*hour_of(DAY, BOOK, 0))

    def test_what_would_come_behind_the_last_hour(self):
        day = put(DAY, [2, 0, 6], (0, 1, 2))
        run = passed(day, BOOK, 2)
        self.assertIs(run.is_open(0), True)
        for much in ((1, 10 ** 40), (1, 1)):
            self.refused(run, day, TooMuch, lambda: run.pass_hour(*put(hour_of(day, BOOK, 2), [0, 0], much)))
        run.pass_hour(*hour_of(day, BOOK, 2))
        day = put(DAY, [2, 0, 5], 3)
        run = DayRun(day)
        self.refused(run, day, TooMuch, lambda: run.pass_hour([(1, 1), (0, 1)], [(0, 1)] * 2, [(6, 1)] + [(0, 1)] * 2))

    def test_lacking(self):
        run = DayRun(DAY)
        nothing = [(0, 1)] * 2
        for given, place in (((hour_of(DAY, BOOK, 0)[0], nothing, [(0, 1)] * 3), "mill"),
                             (put(hour_of(DAY, BOOK, 0), [2, 0], (6 * 10 ** 40 - 1, 10 ** 40)), "mill"),
                             ((nothing, [(0, 1), (1, 10 ** 40)], [(0, 1)] * 3), "town"),
                             ((nothing, [(1, 1), (1, 1)], [(0, 1)] * 3), "mill"),
                             (([(0, 1), (1, 1)], nothing, [(0, 1)] * 3), "town")):
            self.assertEqual(self.refused(run, DAY, Lacking, lambda: run.pass_hour(*given)).place, place)
        # Nothing came, but 1 is wished.
        run.pass_hour(nothing, nothing, [(0, 1)] * 3)
        for drawn in ([(0, 1)] * 3, [(0, 1), (2, 1), (0, 1)]):
            self.assertEqual(self.refused(run, DAY, Lacking, lambda: run.pass_hour(nothing, nothing, drawn)).place,
                             "town")

    def test_the_first_place_as_they_stand(self):
        day = (("c", "a", "b"), 1, (), (), (), (("b", 0, (1, 1)), ("a", 0, (1, 1)), ("c", 0, (1, 1))))
        for places, place in ((("c", "a", "b"), "c"), (("a", "b", "c"), "a"), (("b", "c", "a"), "b")):
            run = DayRun(put(day, [0], places))
            self.assertEqual(self.refused(run, day, Lacking, lambda: run.pass_hour([], [], [])).place, place)

    def test_too_much_ahead_of_lacking(self):
        run = DayRun(DAY)
        self.refused(run, DAY, TooMuch, lambda: run.pass_hour([(4, 1), (0, 1)], [(0, 1), (4, 1)], [(0, 1)] * 3))

    def test_what_comes_in_the_same_hour_goes_on(self):
        day = (("a", "b"), 1, (
            ("a", "b", (3, 1), (2, 1), (0, 1), 0, (0,)), ("b", "a", (9, 1), (1, 1), (0, 1), 0, (0,))),
            (), (), (("a", 0, (3, 1)),))
        run = DayRun(day)
        run.pass_hour([(3, 1), (6, 1)], [], [])
        self.assertIs(adds_up(day, run.book(), (1, 1)), True)

    def test_no_tie(self):
        for hours in (0, 2, 3):
            run = passed(DAY, BOOK, hours)
            for number in (2, 3, -1, -2, 10 ** 30, -10 ** 30):
                for ask in (run.is_open, run.shut, run.unshut):
                    self.refused(run, DAY, NoTie, lambda: ask(number))
        run = DayRun(LONE)
        for ask in (run.is_open, run.shut, run.unshut):
            self.refused(run, LONE, NoTie, lambda: ask(0))

    def test_a_hundred_refused_deeds(self):
        run = passed(DAY, BOOK, 1)
        before = shown(run, DAY)
        for _ in range(50):
            for kind, ask in ((AsItIs, lambda: run.unshut(0)), (NoTie, lambda: run.shut(7)),
                              (TooMuch, lambda: run.pass_hour([(9, 1), (0, 1)], [(0, 1)] * 2, [(0, 1)] * 3)),
                              (Lacking, lambda: run.pass_hour([(4, 1), (0, 1)], [(0, 1)] * 2, [(0, 1)] * 3))):
                self.assertRaises(kind, ask)
        self.assertEqual(shown(run, DAY), before)
        self.assertIs(run.back(), True)
        self.assertEqual(shown(run, DAY), shown(DayRun(DAY), DAY))
        self.assertIs(run.back(), False)


class Shutting(DayRunTest):

    def test_twice(self):
        run = DayRun(DAY)
        self.refused(run, DAY, AsItIs, lambda: run.unshut(0))
        self.assertIsNone(run.shut(0))
        self.refused(run, DAY, AsItIs, lambda: run.shut(0))
        self.assertEqual([run.is_open(0), run.is_open(1)], [False, True])
        self.assertIsNone(run.unshut(0))
        self.refused(run, DAY, AsItIs, lambda: run.unshut(0))
        self.assertEqual([run.is_open(0), run.is_open(1)], [True, True])
        run.shut(0)
        self.assertIs(run.is_open(0), False)

    def test_by_such_deeds_alone(self):
        # Tie 0 isn't open in hour 2 by the day, but isn't shut by a deed.
        run = passed(DAY, BOOK, 2)
        self.refused(run, DAY, AsItIs, lambda: run.unshut(0))
        run.shut(0)
        run.unshut(0)
        self.assertIs(run.is_open(0), False)
        never = put(DAY, [2, 0, 6], ())
        run = DayRun(never)
        self.refused(run, never, AsItIs, lambda: run.unshut(0))
        run.shut(0)
        self.refused(run, never, AsItIs, lambda: run.shut(0))

    def test_from_this_hour_on(self):
        run = passed(DAY, BOOK, 1)
        run.shut(0)
        # What was sent ahead still comes.
        self.assertEqual(run.coming(), [(1, "town", (2, 1))])
        self.assertEqual(frozen(run.book()), frozen(passed(DAY, BOOK, 1).book()))
        self.assertEqual([tie[6] for tie in run.rest()[2]], [(), (0, 1)])
        self.refused(run, DAY, TooMuch, lambda: run.pass_hour(*hour_of(DAY, BOOK, 1)))
        run.pass_hour([(0, 1), (0, 1)], [(1, 1), (0, 1)], [(0, 1)] * 3)
        self.assertIs(run.is_open(0), False)
        self.assertEqual([tie[6] for tie in run.rest()[2]], [(), (0,)])
        run.unshut(0)
        self.assertEqual([tie[6] for tie in run.rest()[2]], [(), (0,)])

    def test_behind_the_last_hour_as_ever(self):
        run = passed(DAY, BOOK, 3)
        self.refused(run, DAY, AsItIs, lambda: run.unshut(1))
        run.shut(1)
        self.assertIs(run.is_open(1), False)
        self.refused(run, DAY, AsItIs, lambda: run.shut(1))
        run.unshut(1)
        self.assertIs(run.is_open(1), False)
        self.assertIs(run.back(), True)
        self.refused(run, DAY, AsItIs, lambda: run.shut(1))
        self.assertIs(run.back(), True)
        self.assertIs(run.back(), True)
        self.assertEqual(run.now(), 2)
        self.assertIs(run.is_open(1), True)

    def test_shut_while_hours_pass(self):
        run = DayRun(DAY)
        run.shut(1)
        run.pass_hour(*hour_of(DAY, BOOK, 0))
        self.assertEqual([run.is_open(0), run.is_open(1)], [True, False])
        run.back()
        run.back()
        run.pass_hour(*hour_of(DAY, BOOK, 0))
        self.assertEqual([run.is_open(0), run.is_open(1)], [True, True])


class Back(DayRunTest):

    def test_each_deed(self):
        run = DayRun(DAY)
        for deed in (lambda: run.shut(0), lambda: run.pass_hour(*hour_of(DAY, BOOK, 0)), lambda: run.shut(1)):
            before = shown(run, DAY)
            deed()
            self.assertNotEqual(shown(run, DAY), before)
            self.assertIs(run.back(), True)
            self.assertEqual(shown(run, DAY), before)
        run.shut(1)
        before = shown(run, DAY)
        run.unshut(1)
        run.back()
        self.assertEqual(shown(run, DAY), before)

    def test_to_the_first_hour_and_on(self):
        run = passed(DAY, BOOK, 3)
        for left in (2, 1, 0):
            self.assertIs(run.back(), True)
            self.assertEqual(shown(run, DAY), shown(passed(DAY, BOOK, left), DAY))
        for _ in range(3):
            self.assertIs(run.back(), False)
            self.assertEqual(shown(run, DAY), shown(DayRun(DAY), DAY))
        run.pass_hour(*hour_of(DAY, BOOK, 0))
        self.assertEqual(run.now(), 1)

    def test_hundreds_of_deeds_taken_back(self):
        run = DayRun(DAY)
        history = [shown(run, DAY)]
        for hour in range(4):
            for deed in (run.shut, run.unshut) * 75:
                deed(1)
                history.append(shown(run, DAY))
            if hour < 3:
                run.pass_hour(*hour_of(DAY, BOOK, hour))
                history.append(shown(run, DAY))
        self.assertEqual(len(history), 604)
        while len(history) > 1:
            history.pop()
            self.assertIs(run.back(), True)
            self.assertEqual(shown(run, DAY), history[-1])
        self.assertIs(run.back(), False)


class Twin(DayRunTest):

    def test_of_which_one_goes_on(self):
        run = passed(DAY, BOOK, 1)
        run.shut(1)
        twin = run.twin()
        self.assertIs(type(twin), DayRun)
        before = shown(run, DAY)
        self.assertEqual(shown(twin, DAY), before)
        twin.unshut(1)
        twin.pass_hour(*hour_of(DAY, BOOK, 1))
        self.assertEqual(shown(run, DAY), before)
        while twin.back():
            self.assertEqual(shown(run, DAY), before)
        self.assertEqual(twin.now(), 0)
        other = run.twin()
        while run.back():
            self.assertEqual(shown(other, DAY), before)
        self.assertEqual([other.back(), other.back(), other.back()], [True, True, False])

    def test_two_have_nothing_in_common(self):
        one, other = DayRun(DAY), DayRun(DAY)
        one.shut(0)
        one.pass_hour([(0, 1)] * 2, [(0, 1)] * 2, [(0, 1)] * 3)
        self.assertEqual(shown(other, DAY), shown(DayRun(DAY), DAY))


def some_deed(dice, day, run):
    """A deed by the dice: an hour of some book of the rest, maybe with one amount put otherwise, or a shutting."""
    kind = dice.roll(6)
    if kind == 0:
        return "back", ()
    if kind < 3:
        return dice.one_of(("shut", "unshut")), (dice.roll(len(day[2]) + 2) - 1,)
    now = run.now()
    given = [[as_pair(as_fraction(tie[2]) * Fraction(dice.roll(3), 4)) if now in tie[6] and dice.roll(2) else (0, 1)
              for tie in day[2]],
             [as_pair(as_fraction(store[1]) * Fraction(dice.roll(3) * dice.roll(2), 4)) for store in day[3]],
             [well[2] if well[1] == now else (0, 1) for well in day[4]]]
    if dice.roll(3) and run.rest() is not None:
        share, book = day_share(run.rest())
        then = [number for number, well in enumerate(day[4]) if well[1] >= now]
        given = [[row[0] for row in book[0]], [row[0] for row in book[1]],
                 [book[2][then.index(number)] if well[1] == now else (0, 1) for number, well in enumerate(day[4])]]
    if dice.roll(3) == 0:
        part = dice.roll(3)
        if given[part]:
            at = dice.roll(len(given[part]))
            given[part][at] = as_pair(as_fraction(given[part][at]) + Fraction(dice.roll(5) - 2, 2))
    return "pass_hour", tuple(given)


class ByTheDice(DayRunTest):

    def do(self, run, model, name, given):
        if name == "back":
            self.assertIs(run.back(), model.done != [])
            model.done = model.done[:-1]
            return None
        refusal = model.refusal(name, given)
        if refusal is not None:
            kind, place = refusal
            caught = self.refused(run, model.day, kind, lambda: getattr(run, name)(*given))
            if kind is Lacking:
                self.assertEqual(caught.place, place)
            return kind
        self.assertIsNone(getattr(run, name)(*given))
        model.done = model.done + [(name, copied(given))]
        return None

    def test_deeds(self):
        dice = Dice(141)
        kinds = {}
        for _ in range(45):
            day = some_day(dice, SIZES, GAINS)
            run, model = DayRun(day), Model(day)
            for _ in range(40):
                kind = self.do(run, model, *some_deed(dice, day, run))
                kinds[kind] = kinds.get(kind, 0) + 1
                self.assertEqual(shown(run, day), model.shown())
            self.assertTrue(book_ok(day, run.book()))
            while run.back():
                model.done = model.done[:-1]
                self.assertEqual(shown(run, day), model.shown())
            self.assertEqual(model.done, [])
        self.assertEqual(set(kinds), {None, NoTie, AsItIs, Over, TooMuch, Lacking})
        self.assertGreater(min(kinds.values()), 20, kinds)


class Rest(DayRunTest):

    def go_on(self, run, day, book):
        """Does an hour of a rest's book in the day: hour 0 of the rest."""
        now = run.now()
        then = [number for number, well in enumerate(day[4]) if well[1] >= now]
        run.pass_hour([row[0] for row in book[0]], [row[0] for row in book[1]],
                      [book[2][then.index(number)] if well[1] == now else (0, 1) for number, well in enumerate(day[4])])

    def through(self, run, day, book):
        """Goes through all that is left by one book of the rest."""
        now = run.now()
        then = [number for number, well in enumerate(day[4]) if well[1] >= now]
        for hour in range(day[1] - now):
            run.pass_hour([row[hour] for row in book[0]], [row[hour] for row in book[1]],
                          [book[2][then.index(number)] if well[1] == now + hour else (0, 1)
                           for number, well in enumerate(day[4])])

    def test_by_hand(self):
        self.assertEqual(cheapest_day(passed(DAY, BOOK, 1).rest())[0], (0, 1))
        run = passed(DAY, put(BOOK, [0, 0, 0], (2, 1)), 1)
        # 2 are stored in the mill, as 1, which makes 1/2 in the town; 1 comes there now.
        price, book = cheapest_day(run.rest())
        self.assertEqual(price, (1, 1))
        self.through(run, DAY, book)
        self.assertIs(adds_up(DAY, run.book(), (1, 1)), True)
        self.assertEqual(day_price(DAY, run.book()), (9, 1))

    def test_a_shut_tie(self):
        run = passed(DAY, put(BOOK, [0, 0, 0], (2, 1)), 1)
        self.assertEqual(day_share(run.rest())[0], (1, 1))
        run.shut(0)
        # To the town come 1 now and 1 in the last hour, no more; wished are 1 and 3/2.
        self.assertEqual(day_share(run.rest())[0], (4, 5))
        run.back()
        self.assertEqual(day_share(run.rest())[0], (1, 1))

    def test_a_rest_of_a_rest(self):
        dice = Dice(142)
        for _ in range(25):
            day = some_day(dice, SIZES, GAINS)
            if day_share(day)[0] != (1, 1):
                continue
            run = DayRun(day)
            again = run.rest()
            other = DayRun(again)
            while run.rest() is not None:
                self.assertEqual(frozen(other.rest()[:4] + other.rest()[5:]), frozen(run.rest()[:4] + run.rest()[5:]))
                self.assertEqual(sorted(other.rest()[4]), sorted(run.rest()[4]))
                book = cheapest_day(run.rest())[1]
                self.go_on(run, day, book)
                self.go_on(other, again, book)

    def test_adds_up_in_the_day(self):
        dice = Dice(143)
        went = shuts = 0
        for turn in range(240):
            day = some_day(dice, SIZES if turn % 3 else (3, 8, 8, 3, 10, 3), GAINS)
            if day_share(day)[0] != (1, 1):
                continue
            price, book = cheapest_day(day)
            run = DayRun(day)
            for hour in range(dice.roll(day[1]) + 1):
                # What is paid so far and what is still to be paid are the lowest price.
                so_far = paid(day, run.book())
                self.assertTrue(day_ok(run.rest()))
                self.assertEqual(so_far + as_fraction(cheapest_day(run.rest())[0]), as_fraction(price))
                run.pass_hour(*hour_of(day, book, hour))
            if run.rest() is None:
                self.assertEqual(paid(day, run.book()), as_fraction(price))
                continue
            if day[2] and dice.roll(2):
                run.shut(dice.roll(len(day[2])))
                shuts += 1
            if day_share(run.rest())[0] == (1, 1):
                left, other = cheapest_day(run.rest())
                so_far = paid(day, run.book())
                self.through(run, day, other)
                self.assertEqual(run.now(), day[1])
                self.assertIs(is_book(day, run.book()), True)
                self.assertIs(adds_up(day, run.book(), (1, 1)), True)
                self.assertLessEqual(paid(day, run.book()), so_far + as_fraction(left))
                self.assertGreaterEqual(paid(day, run.book()), as_fraction(price))
                went += 1
        self.assertGreater(min(went - 20, shuts), 4, (went, shuts))

    def test_at_the_bounds(self):
        dice = Dice(144)
        met = shuts = 0
        for _ in range(6):
            day = great_day(dice, 10 ** 4)
            if day_share(day)[0] == (1, 1):
                price, book = cheapest_day(day)
                run = passed(day, book, 3)
                # More wells than a day has at most, of fractions of any size.
                left, other = cheapest_day(run.rest())
                self.assertEqual(paid(day, run.book()) + as_fraction(left), as_fraction(price))
                shuts += self.without_one(run.twin(), day, book)
                self.through(run, day, other)
                self.assertIs(adds_up(day, run.book(), (1, 1)), True)
                met += 1
        self.assertGreater(min(met, shuts), 2)

    def without_one(self, run, day, book):
        """Shuts a tie that a book still sends on, and goes through what is left as well as may be."""
        used = [number for number, row in enumerate(book[0]) if any(much[0] for much in row[run.now():])]
        if not used:
            return 0
        run.shut(used[0])
        if day_share(run.rest())[0] == (1, 1):
            self.through(run, day, cheapest_day(run.rest())[1])
            self.assertEqual([much for much in run.book()[0][used[0]][3:] if much != (0, 1)], [])
            self.assertGreaterEqual(paid(day, run.book()), paid(day, book))
        return 1


class Own(DayRunTest):

    def test_what_is_told(self):
        for hours in range(4):
            run = passed(DAY, BOOK, hours)
            for ask in (run.now, run.coming, run.book, run.rest, lambda: run.stored("mill"), lambda: run.is_open(0)):
                check_own(self, ask)

    def test_what_is_handed_in(self):
        run = DayRun(DAY)
        given = hour_of(DAY, BOOK, 0)
        before = frozen(given)
        run.pass_hour(*given)
        self.assertEqual(frozen(given), before)
        after = shown(run, DAY)
        spoil(given)
        self.assertEqual(shown(run, DAY), after)
        self.assertEqual(run.book()[0][0][0], (4, 1))

    def test_deeds_behind_a_question(self):
        run = passed(DAY, BOOK, 1)
        told = [run.book(), run.coming(), run.rest(), run.twin().book()]
        before = frozen(told)
        run.pass_hour(*hour_of(DAY, BOOK, 1))
        run.shut(0)
        while run.back():
            self.assertEqual(frozen(told), before)

    def test_a_twin_shares_no_list(self):
        run = passed(DAY, BOOK, 2)
        twin = run.twin()
        told = twin.book()
        spoil(run.book())
        spoil(run.coming())
        self.assertEqual(frozen(twin.book()), frozen(told))


if __name__ == "__main__":
    unittest.main()
