"""Promises [2] and [9]: the steps that a stream leaves."""

import unittest

from gainroads.left import left_steps
from helpers import Dice, as_fraction, as_pair, frozen, some_net, some_stream

NET = (("a", "b", "c"), (
    ("a", "b", (4, 1), (1, 2), (1, 1)),
    ("b", "c", (1, 3), (3, 1), (0, 1)),
    ("a", "b", (0, 1), (2, 1), (0, 1)),
    ("b", "a", (5, 2), (7, 4), (2, 1)),
))
ALONE = (("a",), ())
GAINS = [(1, 2), (1, 1), (2, 1), (3, 4), (60, 59)]


class LeftSteps(unittest.TestCase):

    def test_some_stream(self):
        self.assertEqual(left_steps(NET, [(3, 1), (1, 3), (0, 1), (0, 1)]), [
            (0, False, "a", "b", (1, 1), (1, 2)),
            (0, True, "b", "a", (3, 2), (2, 1)),
            (1, True, "c", "b", (1, 1), (1, 3)),
            (3, False, "b", "a", (5, 2), (7, 4)),
        ])

    def test_noughts(self):
        self.assertEqual(left_steps(NET, [(0, 1)] * 4), [
            (0, False, "a", "b", (4, 1), (1, 2)),
            (1, False, "b", "c", (1, 3), (3, 1)),
            (3, False, "b", "a", (5, 2), (7, 4)),
        ])

    def test_at_the_mosts(self):
        self.assertEqual(left_steps(NET, [tie[2] for tie in NET[1]]), [
            (0, True, "b", "a", (2, 1), (2, 1)),
            (1, True, "c", "b", (1, 1), (1, 3)),
            (3, True, "a", "b", (35, 8), (4, 7)),
        ])

    def test_a_hair_off(self):
        hair = 10 ** 60
        self.assertEqual(left_steps(NET, [(1, hair), (hair - 1, 3 * hair), (0, 1), (0, 1)])[:4], [
            (0, False, "a", "b", (4 * hair - 1, hair), (1, 2)),
            (0, True, "b", "a", (1, 2 * hair), (2, 1)),
            (1, False, "b", "c", (1, 3 * hair), (3, 1)),
            (1, True, "c", "b", (hair - 1, hair), (1, 3)),
        ])

    def test_without_ties_and_shut(self):
        self.assertEqual(left_steps(ALONE, []), [])
        self.assertEqual(left_steps((("a", "b"), (NET[1][2],)), [(0, 1)]), [])

    def test_by_the_dice(self):
        dice = Dice(10)
        for _ in range(200):
            net = some_net(dice, 10, 24, GAINS)
            stream = some_stream(dice, net)
            steps = []
            for number, (begin, end, most, gain, price) in enumerate(net[1]):
                much = as_fraction(stream[number])
                room = as_fraction(most) - much
                if room > 0:
                    steps.append((number, False, begin, end, as_pair(room), gain))
                if much > 0:
                    steps.append((number, True, end, begin, as_pair(much * as_fraction(gain)), gain[::-1]))
            self.assertEqual(frozen(left_steps(net, stream)), frozen(steps))

    def test_own_and_as_it_was(self):
        stream = [(3, 1), (1, 3), (0, 1), (0, 1)]
        before = frozen(stream)
        told = left_steps(NET, stream)
        kept = list(told)
        told.clear()
        self.assertEqual(left_steps(NET, stream), kept)
        self.assertEqual(frozen(stream), before)
        stream[0] = (4, 1)
        self.assertEqual(left_steps(NET, stream), [(0, True, "b", "a", (2, 1), (2, 1))] + kept[2:])


if __name__ == "__main__":
    unittest.main()
