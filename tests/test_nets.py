"""Promises [2], [4] and [5]: nets, and streams on them."""

import unittest
from fractions import Fraction

from gainroads.nets import is_net, is_stream, keeps, left_at, price_of, ties_from, ties_to
from helpers import Dice, as_fraction, as_pair, fraction_ok, frozen, net_ok, some_net, some_stream, variants

TIE = ("mill", "town", (3, 1), (1, 2), (5, 4))
NET = (("mill", "town", "sea"), (
    ("mill", "town", (4, 1), (1, 2), (1, 1)),
    ("mill", "town", (2, 1), (3, 1), (2, 3)),
    ("town", "mill", (7, 2), (5, 4), (0, 1)),
    ("town", "sea", (10, 1), (2, 3), (1, 7)),
    ("sea", "town", (0, 1), (1, 1), (9, 1)),
))
ALONE = (("a",), ())
GAINS = [(1, 2), (1, 1), (2, 1), (3, 4), (60, 59)]


def net_with(at, part):
    """A net of one tie, one part of which is another one."""
    tie = list(TIE)
    tie[at] = part
    return (("mill", "town"), (tuple(tie),))


class IsNet(unittest.TestCase):

    def test_nets(self):
        for thing in (NET, ALONE, (("a", "b"), ()), (("abcdefgh", "z"), (("z", "abcdefgh", (0, 1), (1, 60), (0, 1)),)),
                      (("mill", "town"), (TIE, TIE, TIE))):
            self.assertIs(is_net(thing), True, thing)

    def test_bounds_are_not_looked_at(self):
        places = tuple("abcdefghijklmnopqrstuvwxyz")
        tie = ("a", "b", (10 ** 40, 10 ** 20 + 1), (10 ** 30 + 1, 10 ** 30), (1, 10 ** 9))
        self.assertIs(is_net((places, (tie,) * 50)), True)

    def test_names(self):
        for name in ("", "abcdefghi", "A", "aB", "a1", "a b", " a", "a\n", "\n", "\u00e9", "\u00df", "a_", "`", "{",
                     "\u0430", None, True, 1, ("a",), ["a"]):
            self.assertIs(is_net(((name,), ())), False, name)
            self.assertIs(is_net((("a", name), ())), False, name)

    def test_places(self):
        for places in ((), ("a", "a"), ("a", "b", "a"), ["a"], "a", "ab", None, ("a", None), (("a",),)):
            self.assertIs(is_net((places, ())), False, places)

    def test_ends_of_a_tie(self):
        for part in ("hill", "town", "", None, True, ("mill",), ["mill"], 0):
            self.assertIs(is_net(net_with(0, part)), False, part)
        for part in ("hill", "mill", "", None, False, ("town",), ["town"], 1):
            self.assertIs(is_net(net_with(1, part)), False, part)

    def test_fractions_of_a_tie(self):
        for at in (2, 3, 4):
            for part in ((1, 2), (7, 1), (10 ** 9, 999)):
                self.assertIs(is_net(net_with(at, part)), True, part)
            for part in (1, True, None, "1", (2, 4), [1, 2], (1,), (1, 2, 3), (True, 1), (1, True), (1, 0), (-1, 2),
                         (1, -2), ("1", "2"), (-1, 10 ** 9)):
                self.assertIs(is_net(net_with(at, part)), False, part)

    def test_nought(self):
        self.assertIs(is_net(net_with(2, (0, 1))), True)
        self.assertIs(is_net(net_with(3, (0, 1))), False)
        self.assertIs(is_net(net_with(4, (0, 1))), True)

    def test_parts(self):
        for thing in ((), (("a",),), (("a",), (), ()), [("a",), ()], (("a",), []), (("a",), None), None, True, "ab",
                      (("mill", "town"), TIE), (("mill", "town"), [TIE]), (("mill", "town"), (TIE[:4],)),
                      (("mill", "town"), (TIE + ((1, 1),),)), (("mill", "town"), (list(TIE),)),
                      (("mill", "town"), (TIE, None)), (("mill", "town"), ((),))):
            self.assertIs(is_net(thing), False, thing)

    def test_anything(self):
        for thing in variants((("mill", "a"), (("mill", "a", (1, 2), (3, 1), (0, 1)),))):
            self.assertIs(is_net(thing), net_ok(thing), thing)


class Ties(unittest.TestCase):

    def test_ties(self):
        self.assertEqual(ties_from(NET, "mill"), [0, 1])
        self.assertEqual(ties_from(NET, "town"), [2, 3])
        self.assertEqual(ties_from(NET, "sea"), [4])
        self.assertEqual(ties_to(NET, "mill"), [2])
        self.assertEqual(ties_to(NET, "town"), [0, 1, 4])
        self.assertEqual(ties_to(NET, "sea"), [3])

    def test_none(self):
        self.assertEqual(ties_from(ALONE, "a"), [])
        self.assertEqual(ties_to(ALONE, "a"), [])

    def test_told_lists_are_the_askers_own(self):
        for ask in (ties_from, ties_to):
            told = ask(NET, "town")
            before = list(told)
            told.append(99)
            self.assertEqual(ask(NET, "town"), before)


class IsStream(unittest.TestCase):

    def test_streams(self):
        for stream in ([(0, 1)] * 5, [tie[2] for tie in NET[1]], [(1, 3), (2, 1), (0, 1), (19, 2), (0, 1)]):
            self.assertIs(is_stream(NET, stream), True, stream)

    def test_without_ties(self):
        self.assertIs(is_stream(ALONE, []), True)
        self.assertIs(is_stream(ALONE, ()), False)
        self.assertIs(is_stream(ALONE, [(0, 1)]), False)

    def test_a_little_above_the_most(self):
        for at, tie in enumerate(NET[1]):
            stream = [(0, 1)] * 5
            stream[at] = as_pair(as_fraction(tie[2]) + Fraction(1, 10 ** 50))
            self.assertIs(is_stream(NET, stream), False, at)
            stream[at] = (-1, 10 ** 50)
            self.assertIs(is_stream(NET, stream), False, at)
        self.assertIs(is_stream(NET, [(4 * 10 ** 50 - 1, 10 ** 50)] + [(0, 1)] * 4), True)

    def test_wrong_things(self):
        for part in (0, 1, True, False, None, "0", "0/1", [0, 1], (0,), (0, 1, 1), (0, 2), (2, 4), (True, 1),
                     (False, True), (1, -1), (-1, 1), ((0, 1), (0, 1))):
            self.assertIs(is_stream(NET, [part] + [(0, 1)] * 4), False, part)
        for thing in ([(0, 1)] * 4, [(0, 1)] * 6, ((0, 1),) * 5, [], None, True, "aaaaa", 5, [[(0, 1)] * 5]):
            self.assertIs(is_stream(NET, thing), False, thing)

    def test_anything(self):
        mosts = [Fraction(1, 1), Fraction(0)]
        net = (("a", "b"), (("a", "b", (1, 1), (1, 2), (0, 1)), ("b", "a", (0, 1), (1, 2), (0, 1))))
        for thing in variants([(1, 2), (0, 1)]):
            right = (type(thing) is list and len(thing) == 2 and all(fraction_ok(part) for part in thing)
                     and all(0 <= as_fraction(part) <= most for part, most in zip(thing, mosts)))
            self.assertIs(is_stream(net, thing), right, thing)


class Sums(unittest.TestCase):

    stream = [(3, 1), (1, 2), (2, 1), (0, 1), (0, 1)]

    def test_left_at(self):
        self.assertEqual(left_at(NET, self.stream, "mill"), (-1, 1))
        self.assertEqual(left_at(NET, self.stream, "town"), (1, 1))
        self.assertEqual(left_at(NET, self.stream, "sea"), (0, 1))
        self.assertEqual(left_at(ALONE, [], "a"), (0, 1))

    def test_price_of(self):
        self.assertEqual(price_of(NET, self.stream), (10, 3))
        self.assertEqual(price_of(NET, [tie[2] for tie in NET[1]]), as_pair(4 + Fraction(4, 3) + Fraction(10, 7)))
        self.assertEqual(price_of(ALONE, []), (0, 1))

    def test_keeps(self):
        self.assertIs(keeps(NET, self.stream, "mill", "town"), True)
        self.assertIs(keeps(NET, self.stream, "town", "mill"), True)
        self.assertIs(keeps(NET, self.stream, "mill", "sea"), False)
        self.assertIs(keeps(NET, self.stream, "sea", "town"), False)
        self.assertIs(keeps(NET, [(3, 1), (1, 2), (2, 1), (1, 1), (0, 1)], "mill", "sea"), True)
        self.assertIs(keeps(NET, [(3, 1), (1, 2), (2, 1), (10 ** 40 + 1, 10 ** 40), (0, 1)], "mill", "sea"), False)
        self.assertIs(keeps(NET, [(0, 1)] * 5, "sea", "mill"), True)

    def test_ties_into_begin_and_out_of_end(self):
        net = (("a", "b", "c"), (("b", "a", (2, 1), (1, 1), (0, 1)), ("c", "b", (2, 1), (1, 1), (0, 1)),
                                 ("c", "a", (1, 1), (3, 1), (0, 1))))
        self.assertIs(keeps(net, [(1, 1), (1, 1), (1, 1)], "a", "c"), True)
        self.assertEqual(left_at(net, [(1, 1), (1, 1), (1, 1)], "c"), (-2, 1))
        self.assertIs(keeps(net, [(2, 1), (1, 1), (1, 1)], "a", "c"), False)

    def test_two_places_keep_ever(self):
        net = (("a", "b"), (("a", "b", (2, 1), (1, 1), (0, 1)),))
        self.assertIs(keeps(net, [(2, 1)], "a", "b"), True)

    def test_by_the_dice(self):
        dice = Dice(4)
        for _ in range(200):
            net = some_net(dice, 4, 7, GAINS)
            stream = some_stream(dice, net)
            self.assertIs(is_net(net), True)
            self.assertIs(is_stream(net, stream), True)
            goes = [(tie, as_fraction(much)) for tie, much in zip(net[1], stream)]
            lefts = {}
            for place in net[0]:
                lefts[place] = sum(much * as_fraction(tie[3]) for tie, much in goes if tie[1] == place)
                lefts[place] -= sum(much for tie, much in goes if tie[0] == place)
                self.assertEqual(left_at(net, stream, place), as_pair(Fraction(lefts[place])))
            price = sum((as_fraction(tie[4]) * much for tie, much in goes), Fraction(0))
            self.assertEqual(price_of(net, stream), as_pair(price))
            for begin in net[0]:
                for end in net[0]:
                    if begin != end:
                        kept = all(lefts[place] == 0 for place in net[0] if place != begin and place != end)
                        self.assertIs(keeps(net, stream, begin, end), kept)

    def test_what_was_handed_in_stays_as_it_was(self):
        stream = list(self.stream)
        before = frozen(stream)
        told = (is_stream(NET, stream), left_at(NET, stream, "town"), price_of(NET, stream),
                keeps(NET, stream, "mill", "sea"))
        self.assertEqual(frozen(stream), before)
        again = (is_stream(NET, stream), left_at(NET, stream, "town"), price_of(NET, stream),
                 keeps(NET, stream, "mill", "sea"))
        self.assertEqual(again, told)

    def test_nothing_is_kept_to_be_read_later(self):
        stream = list(self.stream)
        left_at(NET, stream, "sea")
        stream[3] = (3, 1)
        self.assertEqual(left_at(NET, stream, "sea"), (2, 1))
        stream.append((0, 1))
        self.assertIs(is_stream(NET, stream), False)


if __name__ == "__main__":
    unittest.main()
