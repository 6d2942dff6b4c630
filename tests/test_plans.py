"""Promises [1], [2] and [16]: plans with several stuffs, and sendings."""

import unittest
from fractions import Fraction

from gainroads.plans import count_at, counts_up, is_plan, is_sending
from helpers import (JUNK, Dice, Drawing, as_fraction, as_pair, check_own, counted, counts_ok, frozen, great_plan,
                     plan_noughts, plan_ok, put, sending_ok, some_plan, variants, wished)

GAINS = [(1, 2), (1, 1), (2, 1), (3, 4), (60, 59), (4, 3)]
LONE = (("a",), ("a",), (), (), (), ())
# Ore from the pit becomes iron in the mill, which the town wishes; water goes the same tie.
ORE = (("pit", "mill", "town"), ("ore", "iron", "water"), (
    ("pit", "mill", (6, 1), (1, 1)),
    ("mill", "town", (5, 2), (2, 3)),
), (
    ("mill", "ore", "iron", (4, 1), (1, 2)),
), (
    ("pit", "ore", (10, 1)), ("mill", "water", (3, 1)),
), (
    ("town", "iron", (2, 1)), ("town", "water", (1, 1)), ("town", "iron", (1, 2)),
))
SENDING = ([[(3, 1), (0, 1), (0, 1)], [(0, 1), (3, 2), (3, 5)]], [(3, 1)], [(3, 1), (3, 5)])


class IsPlan(unittest.TestCase):

    def told(self, thing, expected):
        self.assertIs(is_plan(thing), expected, thing)

    def test_plans(self):
        for plan in (LONE, ORE, (("a", "b"), ("a",), (), (), (), ()), (("a",), ("a", "b"), (), (), (), ()),
                     (("x",), ("x", "y"), (), (("x", "x", "y", (0, 1), (1, 60)),), (("x", "x", (0, 1)),),
                      (("x", "y", (1, 1000)),))):
            self.told(plan, True)

    def test_several_at_the_same_place(self):
        self.told((("a", "b"), ("s", "t"), (("a", "b", (1, 1), (1, 1)),) * 3, (("a", "s", "t", (1, 1), (1, 1)),) * 2,
                   (("a", "s", (1, 1)),) * 4, (("b", "s", (1, 1)),) * 2), True)

    def test_bounds_are_no_matter(self):
        places = tuple("abcdefghijkl")
        self.told((places, places, (("a", "b", (10 ** 40, 1), (10 ** 40, 7)),) * 30, (), (("a", "a", (1, 1)),) * 30,
                   (("a", "a", (1, 10 ** 40)),) * 30), True)

    def test_names(self):
        for at in (0, 1):
            for names in ((), ("a", "a"), ("A",), ("",), ("abcdefghi",), ("a1",), ("a b",), ("a\n",), ["a"], "a", None,
                          (None,), (1,), (True,), (("a",),), ("a", 1), ("\u00e4",)):
                self.told(put(LONE, [at], names), False)
            self.told(put(LONE, [at], ("abcdefgh", "z")), True)

    def test_ties(self):
        right = ("pit", "mill", (6, 1), (1, 1))
        for wrong in (("pit", "pit", (6, 1), (1, 1)), ("pit", "ore", (6, 1), (1, 1)), ("sea", "pit", (6, 1), (1, 1)),
                      ("pit", "mill", (-1, 1), (1, 1)), ("pit", "mill", (6, 1), (0, 1)), ("pit", "mill", (6, 1)),
                      ("pit", "mill", (6, 1), (-1, 1)), ("pit", "mill", (6, 1), (1, 1), (0, 1)), list(right),
                      ("pit", "mill", 6, (1, 1)), ("pit", "mill", (6, 1), 1), ("pit", "mill", (2, 2), (1, 1)),
                      ("pit", "mill", [6, 1], (1, 1)), ("pit", "mill", (True, 1), (1, 1)),
                      ("pit", "mill", "6", (1, 1))):
            self.told(put(ORE, [2, 0], wrong), False)
        self.told(put(ORE, [2, 0], ("mill", "pit", (0, 1), (1, 60))), True)

    def test_turners(self):
        for wrong in (("mill", "ore", "ore", (4, 1), (1, 2)), ("ore", "ore", "iron", (4, 1), (1, 2)),
                      ("mill", "pit", "iron", (4, 1), (1, 2)), ("mill", "ore", "mill", (4, 1), (1, 2)),
                      ("mill", "ore", "iron", (-4, 1), (1, 2)), ("mill", "ore", "iron", (4, 1), (0, 1)),
                      ("mill", "ore", "iron", (4, 1)), ("mill", "ore", "iron", (4, 1), (1, 2), (0, 1)),
                      ["mill", "ore", "iron", (4, 1), (1, 2)], ("mill", "ore", "iron", (4, 1), True)):
            self.told(put(ORE, [3, 0], wrong), False)
        self.told(put(ORE, [3, 0], ("pit", "water", "ore", (0, 1), (60, 1))), True)

    def test_wells_and_wishes(self):
        for at, none in ((4, (0, 1)), (5, (1, 1000))):
            for wrong in (("ore", "ore", (1, 1)), ("pit", "pit", (1, 1)), ("pit", "ore", (-1, 1)), ("pit", "ore"),
                          ("pit", "ore", (1, 1), (1, 1)), ["pit", "ore", (1, 1)], ("pit", "ore", 1),
                          ("pit", "ore", (3, 3)), ("pit", None, (1, 1)), (0, "ore", (1, 1)), ("pit", "ore", (1, True))):
                self.told(put(ORE, [at, 0], wrong), False)
            self.told(put(ORE, [at, 0], ("pit", "ore", none)), True)
        # Nothing can't be wished.
        self.told(put(ORE, [5, 0], ("pit", "ore", (0, 1))), False)

    def test_lists_for_tuples(self):
        for at in range(6):
            self.told(put(ORE, [at], list(ORE[at])), False)
        self.told(list(ORE), False)
        for wrong in (ORE[:5], ORE + ((),), ORE[:2], (), None, "plan"):
            self.told(wrong, False)

    def test_anything(self):
        for thing in variants(ORE):
            self.told(thing, plan_ok(thing))
        for thing in variants(LONE):
            self.told(thing, plan_ok(thing))

    def test_by_the_dice(self):
        dice = Dice(71)
        for _ in range(50):
            plan = some_plan(dice, (6, 4, 12, 12, 8, 8), GAINS)
            self.assertTrue(plan_ok(plan))
            self.told(plan, True)
        self.told(great_plan(dice), True)


class IsSending(unittest.TestCase):

    def told(self, thing, expected, plan=ORE):
        self.assertIs(is_sending(plan, thing), expected, thing)

    def test_sendings(self):
        self.told(SENDING, True)
        self.told(plan_noughts(ORE), True)
        self.told(([], [], []), True, LONE)
        # At the mosts, of a tie all stuffs together.
        self.told(([[(1, 1), (2, 1), (3, 1)], [(5, 2), (0, 1), (0, 1)]], [(4, 1)], [(10, 1), (3, 1)]), True)

    def test_a_little_more_than_a_most(self):
        hair = 10 ** 40
        for path, most in (([0, 0, 0], 6), ([0, 0, 1], 6), ([0, 1, 2], Fraction(5, 2)), ([1, 0], 4), ([2, 0], 10),
                           ([2, 1], 3)):
            self.told(put(plan_noughts(ORE), path, as_pair(Fraction(most))), True)
            self.told(put(plan_noughts(ORE), path, as_pair(most + Fraction(1, hair))), False)
        for much, expected in (((1, 1), True), ((hair + 1, hair), False), ((hair - 1, hair), True)):
            self.told(put(plan_noughts(ORE), [0, 0], [(2, 1), much, (3, 1)]), expected)

    def test_below_nought(self):
        for path in ([0, 0, 0], [0, 1, 2], [1, 0], [2, 0], [2, 1]):
            self.told(put(SENDING, path, (-1, 10 ** 40)), False)
        # Together not above the most, but one of them below 0.
        self.told(put(plan_noughts(ORE), [0, 0], [(7, 1), (-1, 1), (0, 1)]), False)

    def test_lengths(self):
        goes, turns, draws = SENDING
        for wrong in ((goes[:1], turns, draws), (goes + [goes[0]], turns, draws), (goes, [], draws),
                      (goes, turns * 2, draws), (goes, turns, draws[:1]), (goes, turns, draws + [(0, 1)]),
                      (goes, turns), (goes, turns, draws, []), (), ([goes[0][:2], goes[1]], turns, draws),
                      ([goes[0] + [(0, 1)], goes[1]], turns, draws), ([], [], []), (turns, goes, draws)):
            self.told(wrong, False)

    def test_kinds(self):
        goes, turns, draws = SENDING
        for wrong in (list(SENDING), (tuple(goes), turns, draws), (goes, tuple(turns), draws),
                      (goes, turns, tuple(draws)), ([tuple(goes[0]), goes[1]], turns, draws), (goes, turns, None),
                      (goes, [3], draws), (goes, [[3, 1]], draws), (goes, [(3, True)], draws), (goes, ["3"], draws),
                      (goes, [(6, 2)], draws), (goes, [True], draws), ([goes[0], None], turns, draws)):
            self.told(wrong, False)
        for wrong in JUNK:
            self.told(wrong, False)

    def test_anything(self):
        for thing in variants(SENDING):
            self.told(thing, sending_ok(ORE, thing))
        for thing in variants(([], [], [])):
            self.told(thing, sending_ok(LONE, thing), LONE)

    def test_nested_fractions_of_any_size(self):
        self.told(put(SENDING, [1, 0], (10 ** 90, 10 ** 90 + 1)), True)


class Counts(unittest.TestCase):

    def test_count_at(self):
        expected = {("pit", "ore"): (0, 1), ("mill", "ore"): (0, 1), ("mill", "iron"): (0, 1),
                    ("mill", "water"): (0, 1), ("town", "iron"): (1, 1), ("town", "water"): (2, 5),
                    ("town", "ore"): (0, 1)}
        for (place, stuff), much in expected.items():
            self.assertEqual(count_at(ORE, SENDING, place, stuff), much)
        some = ([[(1, 1), (2, 1), (0, 1)], [(0, 1), (0, 1), (1, 1)]], [(3, 1)], [(5, 1), (0, 1)])
        for place, stuff, much in (("pit", "ore", (4, 1)), ("pit", "iron", (-2, 1)), ("mill", "ore", (-2, 1)),
                                   ("mill", "iron", (7, 2)), ("mill", "water", (-1, 1)), ("town", "water", (2, 3))):
            self.assertEqual(count_at(ORE, some, place, stuff), much)

    def test_a_place_and_a_stuff_of_the_same_name(self):
        plan = (("a", "b"), ("b", "a"), (("a", "b", (9, 1), (2, 1)),), (("b", "a", "b", (9, 1), (3, 1)),),
                (("a", "a", (9, 1)),), (("b", "b", (6, 1)),))
        sending = ([[(0, 1), (1, 1)]], [(2, 1)], [(1, 1)])
        self.assertTrue(is_plan(plan) and is_sending(plan, sending))
        self.assertEqual(count_at(plan, sending, "b", "b"), (6, 1))
        self.assertEqual(count_at(plan, sending, "b", "a"), (0, 1))
        self.assertEqual(count_at(plan, sending, "a", "a"), (0, 1))
        self.assertIs(counts_up(plan, (1, 1), sending), True)

    def test_several_at_the_same_place(self):
        plan = (("a",), ("s", "t"), (), (("a", "s", "t", (1, 1), (2, 1)), ("a", "s", "t", (2, 1), (1, 2))),
                (("a", "s", (2, 1)), ("a", "s", (1, 1)), ("a", "t", (1, 1))), (("a", "t", (3, 1)), ("a", "t", (5, 1))))
        sending = ([], [(1, 1), (2, 1)], [(2, 1), (1, 1), (1, 1)])
        self.assertEqual(count_at(plan, sending, "a", "s"), (0, 1))
        self.assertEqual(count_at(plan, sending, "a", "t"), (4, 1))
        self.assertIs(counts_up(plan, (1, 2), sending), True)
        self.assertIs(counts_up(plan, (4, 3), sending), False)

    def test_counts_up(self):
        self.assertIs(counts_up(ORE, (2, 5), SENDING), True)
        for share in ((0, 1), (1, 1), (1, 2), (-2, 5), (10 ** 40 * 2 + 1, 10 ** 40 * 5), (39, 100)):
            self.assertIs(counts_up(ORE, share, SENDING), False, share)
        self.assertIs(counts_up(ORE, (0, 1), plan_noughts(ORE)), True)
        self.assertIs(counts_up(ORE, (1, 10 ** 40), plan_noughts(ORE)), False)

    def test_without_wishes(self):
        plan = ORE[:5] + ((),)
        for share in ((0, 1), (1, 1), (1, 3), (-1, 1), (7, 1)):
            self.assertIs(counts_up(plan, share, plan_noughts(plan)), True)
            self.assertIs(counts_up(plan, share, SENDING), False)
            self.assertIs(counts_up(LONE, share, ([], [], [])), True)

    def test_shares_below_nought_and_above_one(self):
        # Nothing is said here of what share may be: it's counted alone.
        plan = (("a", "b"), ("s",), (("a", "b", (9, 1), (1, 1)),), (), (("a", "s", (9, 1)),), (("b", "s", (2, 1)),))
        self.assertIs(counts_up(plan, (3, 2), ([[(3, 1)]], [], [(3, 1)])), True)
        plan = plan[:5] + ((("a", "s", (2, 1)), ("b", "s", (1, 1))),)
        self.assertIs(counts_up(plan, (-1, 2), ([[(1, 1)]], [], [(0, 1)])), False)
        plan = (("a", "b"), ("s",), (("a", "b", (9, 1), (1, 1)), ("b", "a", (9, 1), (1, 1))), (), (),
                (("a", "s", (2, 1)),))
        self.assertIs(counts_up(plan, (-1, 2), ([[(1, 1)], [(0, 1)]], [], [])), False)
        turning = (("a",), ("s", "t"), (), (("a", "s", "t", (9, 1), (1, 2)), ("a", "t", "s", (9, 1), (1, 1))), (),
                   (("a", "s", (2, 1)),))
        self.assertIs(counts_up(turning, (-1, 2), ([], [(2, 1), (1, 1)], [])), True)

    def test_more_than_wished_does_not_count(self):
        plan = (("a",), ("s",), (), (), (("a", "s", (9, 1)),), (("a", "s", (2, 1)),))
        for much, share, expected in (((2, 1), (1, 1), True), ((3, 1), (1, 1), False), ((1, 1), (1, 1), False),
                                      ((3, 1), (3, 2), True)):
            self.assertIs(counts_up(plan, share, ([], [], [much])), expected)

    def test_wrong_sendings(self):
        for thing in JUNK + [list(SENDING), SENDING[:2], SENDING + ([],)]:
            self.assertIs(counts_up(ORE, (2, 5), thing), False)
            self.assertIs(counts_up(ORE, (0, 1), thing), False)
        # It counts up, but a well gives more than its most.
        plan = (("a",), ("s",), (), (), (("a", "s", (1, 1)),), (("a", "s", (2, 1)),))
        self.assertIs(counts_up(plan, (1, 1), ([], [], [(2, 1)])), False)

    def test_anything(self):
        for thing in variants(SENDING):
            self.assertIs(counts_up(ORE, (2, 5), thing), counts_ok(ORE, (2, 5), thing), thing)

    def test_by_the_dice(self):
        dice = Dice(72)
        seen = {True: 0, False: 0}
        for _ in range(150):
            plan = some_plan(dice, (4, 3, 6, 5, 5, 3), GAINS)
            share, sending = Drawing(dice, plan).draw(6)
            self.assertTrue(sending_ok(plan, sending))
            for some in (share, (0, 1), (1, 1), as_pair(as_fraction(share) / 2)):
                expected = counts_ok(plan, some, sending)
                self.assertIs(counts_up(plan, some, sending), expected)
                seen[expected] += 1
            self.assertIs(counts_up(plan, share, sending), True)
            for (place, stuff), much in counted(plan, sending).items():
                self.assertEqual(frozen(count_at(plan, sending, place, stuff)), frozen(as_pair(much)))
                self.assertEqual(much, as_fraction(share) * wished(plan)[place, stuff])
        self.assertGreater(min(seen.values()), 100)

    def test_what_is_handed_in(self):
        def copied():
            return ([list(much) for much in SENDING[0]], list(SENDING[1]), list(SENDING[2]))
        check_own(self, lambda sending: is_sending(ORE, sending), copied())
        check_own(self, lambda sending: count_at(ORE, sending, "town", "iron"), copied())
        check_own(self, lambda sending: counts_up(ORE, (2, 5), sending), copied())


if __name__ == "__main__":
    unittest.main()
