"""Promises [2] and [6]: ways and rounds."""

import unittest
from fractions import Fraction

from gainroads.ways import gain_of, goes_on, is_round, is_way, room_of
from helpers import Dice, as_fraction, as_pair, frozen, round_ok, some_net, variants, way_ok, ways_of

NET = (("a", "b", "c", "d"), (
    ("a", "b", (4, 1), (1, 2), (1, 1)),
    ("b", "c", (1, 1), (3, 1), (0, 1)),
    ("c", "a", (9, 1), (2, 3), (0, 1)),
    ("b", "a", (5, 2), (7, 4), (2, 1)),
    ("a", "b", (0, 1), (60, 59), (2, 1)),
    ("c", "d", (6, 1), (1, 1), (2, 1)),
))
ALONE = (("a",), ())
GAINS = [(1, 2), (1, 1), (2, 1), (3, 4), (60, 59)]


class IsWay(unittest.TestCase):

    def test_ways(self):
        for way in ([], [0], [5], [0, 1], [0, 1, 2], [0, 3, 4], [0, 1, 2, 4, 3], [3, 0, 1, 5], [4, 1, 2, 0]):
            self.assertIs(is_way(NET, way), True, way)

    def test_ties_that_do_not_join(self):
        for way in ([1, 0], [0, 2], [0, 4], [5, 2], [0, 1, 3], [2, 5]):
            self.assertIs(is_way(NET, way), False, way)

    def test_a_tie_twice(self):
        for way in ([0, 0], [0, 3, 0], [0, 1, 2, 0], [0, 3, 4, 3]):
            self.assertIs(is_way(NET, way), False, way)

    def test_wrong_things(self):
        for thing in ((), (0,), (0, 1), None, True, False, 0, "", "01", ["0"], [True], [False], [False, True], [None],
                      [6], [-1], [-6], [0, 6], [0, -5], [10 ** 30], [[0]], [(0,)], [(0, 1)], [[]], [0, None],
                      [0, [1]], [0, "1"], [0, True]):
            self.assertIs(is_way(NET, thing), False, thing)
            self.assertIs(is_round(NET, thing), False, thing)

    def test_without_ties(self):
        self.assertIs(is_way(ALONE, []), True)
        self.assertIs(is_way(ALONE, [0]), False)
        self.assertIs(is_round(ALONE, []), False)

    def test_anything(self):
        for right in ([], [0], [0, 1, 2], [3, 4], [0, 1, 2, 4, 3]):
            for thing in variants(right):
                self.assertIs(is_way(NET, thing), way_ok(NET, thing), thing)
                self.assertIs(is_round(NET, thing), round_ok(NET, thing), thing)


class IsRound(unittest.TestCase):

    def test_begun_anywhere(self):
        for ties in ([0, 1, 2], [4, 1, 2], [0, 3], [4, 3]):
            for at in range(len(ties)):
                self.assertIs(is_round(NET, ties[at:] + ties[:at]), True, ties)

    def test_no_rounds(self):
        for thing in ([], [0], [0, 1], [0, 1, 5], [1, 2], [0, 2], [0, 1, 2, 0], [0, 3, 0, 3]):
            self.assertIs(is_round(NET, thing), False, thing)

    def test_a_place_twice(self):
        for thing in ([0, 3, 4, 1, 2], [0, 1, 2, 4, 3], [3, 0, 1, 2, 4], [1, 2, 0, 3, 4]):
            self.assertIs(is_way(NET, thing), True, thing)
            self.assertIs(is_round(NET, thing), False, thing)

    def test_round_behind_a_way(self):
        self.assertIs(is_way(NET, [0, 1, 2, 4]), True)
        self.assertIs(is_round(NET, [0, 1, 2, 4]), False)


class Along(unittest.TestCase):

    def test_gain_of(self):
        self.assertEqual(gain_of(NET, []), (1, 1))
        self.assertEqual(gain_of(NET, [0]), (1, 2))
        self.assertEqual(gain_of(NET, [0, 1, 2]), (1, 1))
        self.assertEqual(gain_of(NET, [0, 3]), (7, 8))

    def test_goes_on(self):
        self.assertEqual(goes_on(NET, [], (5, 1)), [])
        self.assertEqual(goes_on(NET, [0], (5, 1)), [(5, 1)])
        self.assertEqual(goes_on(NET, [0, 1, 2], (2, 1)), [(2, 1), (1, 1), (3, 1)])
        self.assertEqual(goes_on(NET, [0, 1], (0, 1)), [(0, 1), (0, 1)])
        self.assertEqual(goes_on(NET, [0, 1], (-1, 3)), [(-1, 3), (-1, 6)])
        # Mosts are no matter here, nor is the size of what begins.
        self.assertEqual(goes_on(NET, [0, 1], (10 ** 50 + 1, 1)), [(10 ** 50 + 1, 1), (10 ** 50 + 1, 2)])

    def test_room_of(self):
        self.assertEqual(room_of(NET, [0]), (4, 1))
        self.assertEqual(room_of(NET, [0, 1]), (2, 1))
        self.assertEqual(room_of(NET, [1, 2]), (1, 1))
        self.assertEqual(room_of(NET, [0, 1, 5]), (2, 1))
        self.assertEqual(room_of(NET, [3, 0]), (16, 7))
        self.assertEqual(room_of(NET, [4]), (0, 1))
        self.assertEqual(room_of(NET, [3, 4]), (0, 1))

    def test_by_the_dice(self):
        dice = Dice(6)
        for _ in range(60):
            net = some_net(dice, 4, 6, GAINS)
            for way in ways_of(net[1], net[0], range(len(net[1]))):
                self.assertIs(is_way(net, way), True)
                self.assertIs(is_round(net, way), round_ok(net, way))
                goes = [Fraction(3, 7)]
                for number in way:
                    goes.append(goes[-1] * as_fraction(net[1][number][3]))
                self.assertEqual(gain_of(net, way), as_pair(goes[-1] / Fraction(3, 7)))
                self.assertEqual(goes_on(net, way, (3, 7)), [as_pair(much) for much in goes[:-1]])
                if way:
                    self.room_is_right(net, way)

    def room_is_right(self, net, way):
        room = room_of(net, way)
        goes = [as_fraction(much) for much in goes_on(net, way, room)]
        mosts = [as_fraction(net[1][number][2]) for number in way]
        self.assertTrue(all(much <= most for much, most in zip(goes, mosts)))
        self.assertTrue(any(much == most for much, most in zip(goes, mosts)))

    def test_a_way_stays_as_it_was(self):
        way = [0, 1, 2]
        for _ in range(2):
            self.assertIs(is_way(NET, way), True)
            self.assertIs(is_round(NET, way), True)
            self.assertEqual(gain_of(NET, way), (1, 1))
            self.assertEqual(room_of(NET, way), (2, 1))
            told = goes_on(NET, way, (2, 1))
            self.assertEqual(told, [(2, 1), (1, 1), (3, 1)])
            told.clear()
            self.assertEqual(frozen(way), frozen([0, 1, 2]))


if __name__ == "__main__":
    unittest.main()
