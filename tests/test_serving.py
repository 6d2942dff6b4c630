"""Promises [1], [2] and [17]: the greatest share of all wishes, and the worths that show it."""

import unittest
from fractions import Fraction

from gainroads.plans import counts_up
from gainroads.serving import served, served_worths, shows_served, toll_sum
from helpers import (JUNK, Dice, Drawing, as_fraction, as_pair, check_own, counts_ok, fraction_ok, frozen, great_plan,
                     plan_noughts, some_plan, variants)

GAINS = [(1, 2), (1, 1), (2, 1), (3, 4), (60, 59), (4, 3)]
SIZES = (6, 4, 12, 12, 8, 8)
LONE = (("a",), ("a",), (), (), (), ())
# 10 ore at most become 2 iron in the mill; the tie to the town bears iron and water, 5/2 together.
ORE = (("pit", "mill", "town"), ("ore", "iron", "water"), (
    ("pit", "mill", (6, 1), (1, 1)),
    ("mill", "town", (5, 2), (2, 3)),
), (
    ("mill", "ore", "iron", (4, 1), (1, 2)),
), (
    ("pit", "ore", (10, 1)), ("mill", "water", (3, 1)),
), (
    ("town", "iron", (2, 1)), ("town", "water", (1, 1)), ("town", "iron", (1, 2)),
))


def tolls(plan, worths):
    """The document's words once more."""
    at = {(place, stuff): as_fraction(worth) for place, some in zip(plan[0], worths)
          for stuff, worth in zip(plan[1], some)}
    total = Fraction(0)
    for begin, end, most, gain in plan[2]:
        total += as_fraction(most) * max([Fraction(0)] + [as_fraction(gain) * at[end, stuff] - at[begin, stuff]
                                                          for stuff in plan[1]])
    for place, stuff, other, most, gain in plan[3]:
        total += as_fraction(most) * max(as_fraction(gain) * at[place, other] - at[place, stuff], 0)
    for place, stuff, most in plan[4]:
        total += as_fraction(most) * max(at[place, stuff], 0)
    return total + max(1 - sum(as_fraction(amount) * at[place, stuff] for place, stuff, amount in plan[5]), 0)


def worths_ok(plan, thing):
    return (type(thing) is list and len(thing) == len(plan[0]) and all(
        type(some) is list and len(some) == len(plan[1]) and all(fraction_ok(worth) for worth in some)
        for some in thing))


def shows_ok(plan, share, sending, worths):
    return (fraction_ok(share) and 0 <= as_fraction(share) <= 1 and counts_ok(plan, share, sending)
            and worths_ok(plan, worths) and tolls(plan, worths) == as_fraction(share))


class Serving(unittest.TestCase):

    def is_served(self, plan):
        """The share, of which the sending, the worths and the checker all say that it's the greatest."""
        told = served(plan)
        self.assertIs(type(told), tuple)
        share, sending = told
        self.assertTrue(fraction_ok(share) and 0 <= as_fraction(share) <= 1)
        self.assertTrue(counts_ok(plan, share, sending))
        self.assertIs(counts_up(plan, share, sending), True)
        worths = served_worths(plan)
        self.assertTrue(worths_ok(plan, worths))
        self.assertEqual(tolls(plan, worths), as_fraction(share))
        self.assertEqual(toll_sum(plan, worths), share)
        self.assertIs(shows_served(plan, share, sending, worths), True)
        return share


class ByHand(Serving):

    def test_ore(self):
        # By share s the tie bears 15/4 s iron and 3/2 s water; the turner makes at most 2 iron.
        self.assertEqual(self.is_served(ORE), (10, 21))
        wide = ORE[:2] + ((ORE[2][0], ("mill", "town", (9, 1), (2, 3))),) + ORE[3:]
        self.assertEqual(self.is_served(wide), (8, 15))

    def test_without_anything(self):
        self.assertEqual(self.is_served(LONE), (1, 1))
        self.assertEqual(served(LONE), ((1, 1), ([], [], [])))
        self.assertEqual(self.is_served((("a", "b"), ("s", "t"), (), (), (), ())), (1, 1))

    def test_without_wishes(self):
        self.assertEqual(self.is_served(ORE[:5] + ((),)), (1, 1))

    def test_without_wells(self):
        self.assertEqual(self.is_served(ORE[:4] + ((),) + ORE[5:]), (0, 1))

    def test_without_ties(self):
        self.assertEqual(self.is_served(ORE[:2] + ((),) + ORE[3:]), (0, 1))
        plan = (("a",), ("s",), (), (), (("a", "s", (1, 1)),), (("a", "s", (3, 1)),))
        self.assertEqual(self.is_served(plan), (1, 3))

    def test_without_turners(self):
        self.assertEqual(self.is_served(ORE[:3] + ((),) + ORE[4:]), (0, 1))
        plan = (("a",), ("s", "t"), (), (), (("a", "s", (9, 1)),), (("a", "t", (3, 1)),))
        self.assertEqual(self.is_served(plan), (0, 1))

    def test_one_place_and_one_stuff(self):
        for most, share in (((0, 1), (0, 1)), ((1, 1000), (1, 3000)), ((3, 1), (1, 1)), ((10 ** 9, 1), (1, 1))):
            plan = (("a",), ("a",), (), (), (("a", "a", most),), (("a", "a", (3, 1)),))
            self.assertEqual(self.is_served(plan), share)

    def test_a_place_and_a_stuff_of_the_same_name(self):
        plan = (("a", "b"), ("b", "a"), (("a", "b", (9, 1), (2, 1)),), (("b", "a", "b", (9, 1), (3, 1)),),
                (("a", "a", (1, 2)),), (("b", "b", (6, 1)),))
        self.assertEqual(self.is_served(plan), (1, 2))

    def test_several_at_the_same_place(self):
        plan = (("a", "b"), ("s", "t"),
                (("a", "b", (1, 1), (1, 2)), ("a", "b", (1, 1), (1, 1)), ("b", "a", (9, 1), (1, 1))),
                (("b", "s", "t", (1, 2), (2, 1)), ("b", "s", "t", (9, 1), (1, 1))),
                (("a", "s", (1, 1)), ("a", "s", (1, 1)), ("b", "s", (0, 1))), (("b", "t", (2, 1)), ("b", "t", (3, 1))))
        # 3/2 come to b, of which 1/2 becomes 1 and 1 stays 1.
        self.assertEqual(self.is_served(plan), (2, 5))

    def test_wishes_met_more_than_once_over(self):
        plan = (("a", "b"), ("s",), (("a", "b", (100, 1), (60, 1)),), (), (("a", "s", (100, 1)),),
                (("b", "s", (1, 7)),))
        self.assertEqual(self.is_served(plan), (1, 1))
        share, sending = served(plan)
        self.assertEqual(sending, ([[(1, 420)]], [], [(1, 420)]))

    def test_one_wish_that_can_not_be_met(self):
        plan = (("a", "b"), ("s",), (("b", "a", (9, 1), (1, 1)),), (), (("a", "s", (9, 1)),),
                (("a", "s", (1, 1)), ("b", "s", (1, 1000))))
        self.assertEqual(self.is_served(plan), (0, 1))
        self.assertEqual(self.is_served(plan[:5] + (plan[5][:1],)), (1, 1))

    def test_a_round_of_turners_makes_from_nothing(self):
        for gain, share in (((1, 1), (1, 5)), ((1, 2), (0, 1)), ((60, 119), (1, 300))):
            plan = (("a",), ("s", "t"), (), (("a", "s", "t", (1, 1), (2, 1)), ("a", "t", "s", (2, 1), gain)), (),
                    (("a", "t", (5, 1)),))
            # 1 at most becomes 2, of which so much goes back as makes 1 again.
            self.assertEqual(self.is_served(plan), share)

    def test_a_round_of_ties_and_turners(self):
        plan = (("a", "b", "c"), ("s", "t"),
                (("a", "b", (4, 1), (1, 1)), ("b", "a", (4, 1), (1, 1)), ("b", "c", (1, 1), (1, 2))),
                (("a", "s", "t", (9, 1), (1, 1)), ("b", "t", "s", (9, 1), (3, 2))), (), (("c", "s", (1, 1)),))
        self.assertEqual(self.is_served(plan), (1, 2))

    def test_a_tie_is_shared_by_all_stuffs(self):
        plan = (("a", "b"), ("s", "t", "u"), (("a", "b", (3, 1), (1, 1)),), (),
                (("a", "s", (9, 1)), ("a", "t", (9, 1)), ("a", "u", (9, 1))),
                (("b", "s", (1, 1)), ("b", "t", (2, 1)), ("b", "u", (3, 1))))
        self.assertEqual(self.is_served(plan), (1, 2))


class Tolls(Serving):

    def test_by_hand(self):
        zeros = [[(0, 1)] * 3 for _ in range(3)]
        self.assertEqual(toll_sum(ORE, zeros), (1, 1))
        worths = [[(1, 1), (0, 1), (0, 1)], [(1, 1), (2, 1), (1, 2)], [(5, 1), (3, 1), (1, 1)]]
        # Ties 6 * 2 (iron) and 5/2 * 7/3 (ore), no turner, wells 10 and 3/2, wishes 17/2.
        self.assertEqual(toll_sum(ORE, worths), as_pair(12 + Fraction(35, 6) + 10 + Fraction(3, 2)))
        worths = [[(-1, 1), (0, 1), (0, 1)], [(-1, 1), (2, 1), (0, 1)], [(0, 1), (3, 1), (-9, 1)]]
        # Ties 6 * 2 (iron) and 5/2 * 1 (ore: 0 above -1), the turner 4 * 2, no wells, wishes -3/2.
        self.assertEqual(toll_sum(ORE, worths), as_pair(12 + Fraction(5, 2) + 8 + Fraction(5, 2)))

    def test_no_wishes_no_ties(self):
        self.assertEqual(toll_sum(LONE, [[(10 ** 50, 3)]]), (1, 1))
        self.assertEqual(toll_sum(LONE, [[(-7, 3)]]), (1, 1))

    def test_by_the_dice(self):
        dice = Dice(81)
        for _ in range(200):
            plan = some_plan(dice, SIZES, GAINS)
            worths = [[as_pair(Fraction(dice.roll(9) - 3, 1 + dice.roll(9))) for _ in plan[1]] for _ in plan[0]]
            self.assertEqual(frozen(toll_sum(plan, worths)), frozen(as_pair(tolls(plan, worths))))
            self.assertLessEqual(as_fraction(served(plan)[0]), tolls(plan, worths))


class Shows(Serving):

    PLAN = (("a", "b"), ("s", "t"), (("a", "b", (2, 1), (1, 2)),), (("b", "s", "t", (3, 1), (1, 1)),),
            (("a", "s", (9, 1)),), (("b", "t", (3, 1)),))
    SHARE = (1, 3)
    SENDING = ([[(2, 1), (0, 1)]], [(1, 1)], [(2, 1)])
    WORTHS = [[(0, 1), (0, 1)], [(1, 3), (1, 3)]]

    def shown(self, share, sending, worths, expected):
        self.assertIs(shows_served(self.PLAN, share, sending, worths), expected, (share, sending, worths))

    def test_right_ones(self):
        self.shown(self.SHARE, self.SENDING, self.WORTHS, True)
        self.assertEqual(self.is_served(self.PLAN), self.SHARE)
        self.assertIs(shows_served(LONE, (1, 1), ([], [], []), [[(-5, 3)]]), True)

    def test_shares(self):
        for share in ((0, 1), (1, 1), (2, 3), (-1, 3), (4, 3), (10 ** 40 + 1, 3 * 10 ** 40), (2, 6), [1, 3], "1/3", 1,
                      True, None, (True, 3), (1, 3, 1), (1,), ("1", "3")):
            self.shown(share, self.SENDING, self.WORTHS, False)
        for share in JUNK:
            self.shown(share, self.SENDING, self.WORTHS, False)

    def test_shares_below_nought_and_above_one(self):
        # A share that its sending counts up to, and that is the toll_sum too, but above 1.
        plan = (("a",), ("s",), (), (), (("a", "s", (3, 1)),), (("a", "s", (2, 1)),))
        worths, sending = [[(1, 2)]], ([], [], [(3, 1)])
        self.assertEqual((toll_sum(plan, worths), counts_up(plan, (3, 2), sending)), ((3, 2), True))
        self.assertIs(shows_served(plan, (3, 2), sending, worths), False)
        self.assertIs(shows_served(LONE, (2, 1), ([], [], []), [[(0, 1)]]), False)
        self.assertIs(shows_served(LONE, (0, 1), ([], [], []), [[(0, 1)]]), False)
        self.assertIs(shows_served(LONE, (-1, 1), ([], [], []), [[(0, 1)]]), False)

    def test_worths(self):
        for worths in ([[(0, 1), (0, 1)], [(0, 1), (0, 1)]], [[(0, 1), (0, 1)], [(1, 3), (1, 4)]],
                       [[(0, 1), (0, 1)], [(1, 3), (1, 2)]], [[(1, 6), (0, 1)], [(1, 3), (1, 3)]]):
            self.shown(self.SHARE, self.SENDING, worths, False)
        one, two = self.WORTHS
        for worths in ([one], [one, two, two], [one[:1], two], [one, two + [(0, 1)]], (one, two), [tuple(one), two],
                       one + two, [one, None], [one, [0, 1]], [one, [[1, 3], [1, 3]]], [one, [(1, 3), (2, 6)]],
                       [one, [(1, 3), (True, 3)]], [one, ["1/3", (1, 3)]], [[one, two]], [], None, "ab"):
            self.shown(self.SHARE, self.SENDING, worths, False)
        for worths in JUNK:
            self.shown(self.SHARE, self.SENDING, worths, False)

    def test_sendings(self):
        hair = Fraction(1, 10 ** 40)
        for by in (hair, -hair):
            goes, turns, draws = as_pair(2 + by), as_pair(1 + by / 2), as_pair(2 + by)
            self.shown(self.SHARE, ([[goes, (0, 1)]], [turns], [draws]), self.WORTHS, False)
            self.shown(as_pair(Fraction(1, 3) + by / 6), ([[goes, (0, 1)]], [turns], [draws]), self.WORTHS, False)
        for sending in JUNK + [plan_noughts(self.PLAN), list(self.SENDING), self.SENDING[:2], self.SENDING + ([],)]:
            self.shown(self.SHARE, sending, self.WORTHS, False)

    def test_anything(self):
        for share in variants(self.SHARE):
            self.shown(share, self.SENDING, self.WORTHS, shows_ok(self.PLAN, share, self.SENDING, self.WORTHS))
        for sending in variants(self.SENDING):
            self.shown(self.SHARE, sending, self.WORTHS, shows_ok(self.PLAN, self.SHARE, sending, self.WORTHS))
        for worths in variants(self.WORTHS):
            self.shown(self.SHARE, self.SENDING, worths, shows_ok(self.PLAN, self.SHARE, self.SENDING, worths))


class ByTheDice(Serving):

    def test_plans(self):
        dice = Dice(82)
        seen = {"none": 0, "all": 0, "some": 0}
        for turn in range(300):
            sizes = SIZES if turn % 2 else (3, 3, 12, 8, 8, 3)
            share = self.is_served(some_plan(dice, sizes, GAINS))
            seen["none" if share == (0, 1) else "all" if share == (1, 1) else "some"] += 1
        self.assertGreater(min(seen.values()), 40, seen)

    def test_no_drawn_sending_meets_more(self):
        dice = Dice(83)
        met = 0
        for _ in range(150):
            plan = some_plan(dice, (4, 3, 8, 6, 6, 3), GAINS)
            best = as_fraction(self.is_served(plan))
            for _ in range(5):
                share, sending = Drawing(dice, plan).draw(12)
                self.assertIs(counts_up(plan, share, sending), True)
                self.assertLessEqual(as_fraction(share), best)
                met += plan[5] != () and share != (0, 1)
        self.assertGreater(met, 100)

    def test_at_the_bounds(self):
        dice = Dice(84)
        between = 0
        for _ in range(8):
            share = self.is_served(great_plan(dice))
            between += share not in ((0, 1), (1, 1))
        self.assertGreater(between, 2)


class Own(Serving):

    def test_what_is_told_and_handed_in(self):
        for plan in (LONE, ORE, Shows.PLAN, great_plan(Dice(85))):
            check_own(self, lambda: served(plan))
            check_own(self, lambda: served_worths(plan))
            check_own(self, lambda worths: toll_sum(plan, worths), served_worths(plan))
            share, sending = served(plan)
            check_own(self, lambda sending, worths: shows_served(plan, share, sending, worths), sending,
                      served_worths(plan))


if __name__ == "__main__":
    unittest.main()
