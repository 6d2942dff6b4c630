"""Promises [1], [2], [9] and [10]: courses, rings, and what betters a stream."""

import unittest
from fractions import Fraction

from gainroads.bettering import bettered, bettering, shows_bettering
from gainroads.left import left_steps
from gainroads.most import most
from gainroads.nets import is_stream, keeps, left_at
from helpers import (JUNK, Dice, all_betterings, as_fraction, as_pair, check_own, corner_streams, frozen, gain_by,
                     great_net, keeps_ok, left_over, pairs_of, some_keeping, some_net, steps_left, two_places,
                     variants)

GAINS = [(1, 2), (1, 1), (2, 1), (3, 4), (60, 59), (4, 3), (2, 3)]


def tie(begin, end, most, gain, price=(0, 1)):
    return (begin, end, most, gain, price)


WAY = (("a", "b", "c"), (tie("a", "b", (4, 1), (1, 2)), tie("b", "c", (3, 1), (2, 1))))
# A ring of gain 2 at b and c, a course on from c to e, and nothing from a to any of them.
RING = (("a", "b", "c", "d", "e"), (
    tie("b", "c", (6, 1), (4, 1)),
    tie("c", "b", (20, 1), (1, 2)),
    tie("c", "d", (9, 1), (1, 3)),
    tie("d", "e", (5, 1), (3, 1)),
    tie("b", "d", (1, 1), (1, 1)),
    tie("d", "c", (7, 1), (1, 1)),
))
RING_THING = ("ring", [(1, False), (0, False)], [(2, False), (3, False)])
# A ring of gain 3/2 at the end itself.
AT_END = (("a", "b", "c"), (tie("c", "b", (8, 1), (1, 2)), tie("b", "c", (2, 1), (3, 1))))
# A ring at begin, of gain 2, and a tie on to the end.
AT_BEGIN = (("a", "b", "c"), (
    tie("a", "b", (3, 1), (4, 1)), tie("b", "a", (9, 1), (1, 2)), tie("b", "c", (2, 1), (1, 1)),
    tie("a", "c", (5, 1), (1, 1))))
# From a ring at b and c through begin to the end.
THROUGH = (("a", "b", "c", "e"), (
    tie("b", "c", (1, 1), (2, 1)), tie("c", "b", (1, 1), (1, 1)), tie("b", "a", (1, 1), (1, 1)),
    tie("a", "e", (1, 1), (1, 1))))


def noughts(net):
    return [(0, 1)] * len(net[1])


def bettering_ok(net, begin, end, stream, thing):
    """The document's words once more."""
    steps = {(step[0], step[1]): step for step in steps_left(net, stream)}

    def named(part):
        if type(part) is not list:
            return None
        for pair in part:
            if type(pair) is not tuple or [type(side) for side in pair] != [int, bool] or pair not in steps:
                return None
        told = [steps[pair] for pair in part]
        joined = all(told[at][3] == told[at + 1][2] for at in range(len(told) - 1))
        return told if joined else None

    def is_course(told, first):
        places = [first] + [step[3] for step in told or []]
        return (told is not None and (not told or told[0][2] == first)
                and places[-1] == end and len(set(places)) == len(places))

    if type(thing) is not tuple or len(thing) not in (2, 3) or type(thing[0]) is not str:
        return False
    if len(thing) == 2:
        return thing[0] == "way" and is_course(named(thing[1]), begin)
    ring, course = named(thing[1]), named(thing[2])
    if thing[0] != "ring" or ring is None or len(ring) < 2 or course is None:
        return False
    places = [step[2] for step in ring]
    return (len(set(places)) == len(places) and ring[-1][3] == places[0] and gain_by(ring) > 1
            and is_course(course, places[0]) and not any(step[3] in places for step in course))


class Betterings(unittest.TestCase):

    def shown(self, net, begin, end, stream, thing, expected):
        self.assertIs(shows_bettering(net, begin, end, stream, thing), expected, (net, stream, thing))

    def betters(self, net, begin, end, stream, thing):
        """The bettered stream, which keeps, has no step above its room and one at it, and brings as much as told."""
        fresh = bettered(net, begin, end, stream, thing)
        self.assertTrue(keeps_ok(net, begin, end, fresh))
        steps = {(step[0], step[1]): step for step in steps_left(net, stream)}
        shares = {}
        much = Fraction(1)
        for pair in thing[1]:
            shares[pair], much = much, much * steps[pair][5]
        if thing[0] == "ring":
            much -= 1
            for pair in thing[2]:
                self.assertNotIn(pair, shares)
                shares[pair], much = much, much * steps[pair][5]
        room = min(steps[pair][4] / share for pair, share in shares.items())
        expected = [as_fraction(goes) for goes in stream]
        for (number, back), share in shares.items():
            expected[number] += -room * share * steps[number, back][5] if back else room * share
        self.assertEqual(fresh, [as_pair(goes) for goes in expected])
        self.assertGreater(room * much, 0)
        self.assertEqual(left_over(net, fresh, end), left_over(net, stream, end) + room * much)
        return fresh


class ByHand(Betterings):

    def test_a_way(self):
        stream = noughts(WAY)
        thing = ("way", [(0, False), (1, False)])
        self.assertEqual(bettering(WAY, "a", "c", stream), thing)
        self.shown(WAY, "a", "c", stream, thing, True)
        self.assertEqual(bettered(WAY, "a", "c", stream, thing), [(4, 1), (2, 1)])
        self.assertIsNone(bettering(WAY, "a", "c", [(4, 1), (2, 1)]))
        self.assertEqual(bettered(WAY, "a", "c", [(1, 1), (1, 2)], thing), [(4, 1), (2, 1)])

    def test_a_way_back(self):
        # What went from begin to b and back again is no help: taking it off is one.
        net = (("a", "b", "c"), (tie("a", "b", (2, 1), (3, 1)), tie("c", "b", (4, 1), (1, 2)),
                                 tie("b", "c", (1, 1), (1, 1))))
        stream = [(0, 1), (2, 1), (1, 1)]
        self.assertTrue(keeps(net, stream, "a", "c"))
        thing = ("way", [(0, False), (1, True)])
        self.assertEqual(bettering(net, "a", "c", stream), thing)
        # 1/3 begins, 1 comes to b, so much less comes to b that 2 less is taken at c.
        self.assertEqual(bettered(net, "a", "c", stream, thing), [(1, 3), (0, 1), (1, 1)])

    def test_a_ring_with_a_course(self):
        stream = noughts(RING)
        self.shown(RING, "a", "e", stream, RING_THING, True)
        # What begins at c is at most 20 by c to b, 12 by b to c, 9 by c to d, 15 by d to e.
        self.assertEqual(bettered(RING, "a", "e", stream, RING_THING), [(9, 2), (9, 1), (9, 1), (3, 1), (0, 1), (0, 1)])
        told = bettering(RING, "a", "e", stream)
        self.assertEqual(told[0], "ring")
        self.betters(RING, "a", "e", stream, told)

    def test_a_ring_begun_elsewhere(self):
        stream = noughts(RING)
        self.shown(RING, "a", "e", stream, ("ring", [(0, False), (1, False)], [(4, False), (3, False)]), True)
        # The course would come to c, which is of the ring.
        self.shown(RING, "a", "e", stream, ("ring", [(0, False), (1, False)], [(0, False), (2, False), (3, False)]),
                   False)
        # The course begins elsewhere than the ring.
        self.shown(RING, "a", "e", stream, ("ring", [(0, False), (1, False)], [(2, False), (3, False)]), False)
        self.shown(RING, "a", "e", stream, ("ring", [(1, False), (0, False)], [(4, False), (3, False)]), False)

    def test_a_ring_without_its_course(self):
        for course in ([], [(2, False)], [(3, False)], [(2, False), (5, False)]):
            self.shown(RING, "a", "e", noughts(RING), ("ring", RING_THING[1], course), False)
        # To another end it is another course.
        self.shown(RING, "a", "d", noughts(RING), ("ring", RING_THING[1], [(2, False)]), True)
        self.shown(RING, "a", "d", noughts(RING), RING_THING, False)

    def test_a_ring_at_the_end(self):
        stream = noughts(AT_END)
        thing = ("ring", [(0, False), (1, False)], [])
        self.assertEqual(bettering(AT_END, "a", "c", stream), thing)
        self.shown(AT_END, "a", "c", stream, thing, True)
        self.assertEqual(bettered(AT_END, "a", "c", stream, thing), [(4, 1), (2, 1)])
        self.assertEqual(left_at(AT_END, [(4, 1), (2, 1)], "c"), (2, 1))
        # Begun at b the course would come to c, which is of the ring; none is empty there.
        self.shown(AT_END, "a", "c", stream, ("ring", [(1, False), (0, False)], []), False)
        self.shown(AT_END, "a", "c", stream, ("ring", [(1, False), (0, False)], [(1, False)]), False)
        # A course that isn't empty can't end where it begins.
        self.shown(AT_END, "a", "c", stream, ("ring", [(0, False), (1, False)], [(0, False), (1, False)]), False)

    def test_a_ring_at_begin(self):
        stream = noughts(AT_BEGIN)
        self.shown(AT_BEGIN, "a", "c", stream, ("ring", [(0, False), (1, False)], [(3, False)]), True)
        self.shown(AT_BEGIN, "a", "c", stream, ("ring", [(1, False), (0, False)], [(2, False)]), True)
        self.assertEqual(bettered(AT_BEGIN, "a", "c", stream, ("ring", [(0, False), (1, False)], [(3, False)])),
                         [(9, 4), (9, 1), (0, 1), (9, 4)])
        self.assertEqual(bettered(AT_BEGIN, "a", "c", stream, ("ring", [(1, False), (0, False)], [(2, False)])),
                         [(1, 1), (2, 1), (2, 1), (0, 1)])

    def test_a_course_through_begin(self):
        stream = noughts(THROUGH)
        thing = ("ring", [(0, False), (1, False)], [(2, False), (3, False)])
        self.shown(THROUGH, "a", "e", stream, thing, True)
        self.assertEqual(bettered(THROUGH, "a", "e", stream, thing), [(1, 2), (1, 1), (1, 2), (1, 2)])

    def test_rings_that_gain_nothing(self):
        for gain, expected in (((1, 2), False), ((1, 3), False), ((60, 119), True), ((59, 119), False)):
            net = (("a", "b", "c"), (tie("b", "c", (1, 1), (2, 1)), tie("c", "b", (1, 1), gain)))
            self.shown(net, "a", "c", noughts(net), ("ring", [(1, False), (0, False)], []), expected)
            self.assertEqual(bettering(net, "a", "c", noughts(net)) is not None, expected)

    def test_a_ring_of_one_tie_there_and_back(self):
        net = (("a", "b", "c"), (tie("a", "c", (2, 1), (2, 1)), tie("b", "a", (2, 1), (1, 1))))
        stream = [(1, 1), (0, 1)]
        self.shown(net, "b", "c", stream, ("ring", [(0, True), (0, False)], []), False)
        self.shown(net, "a", "c", stream, ("ring", [(0, True), (0, False)], []), False)
        self.shown(net, "a", "c", stream, ("way", [(0, False)]), True)

    def test_steps_without_room(self):
        thing = ("way", [(0, False), (1, False)])
        self.shown(WAY, "a", "c", [(4, 1), (2, 1)], thing, False)
        net = (("a", "b"), (tie("a", "b", (0, 1), (2, 1)), tie("b", "a", (1, 1), (1, 1))))
        self.shown(net, "a", "b", noughts(net), ("way", [(0, False)]), False)
        self.shown(net, "a", "b", noughts(net), ("way", [(1, True)]), False)
        self.shown(net, "a", "b", [(0, 1), (1, 10 ** 40)], ("way", [(1, True)]), True)
        self.assertEqual(bettered(net, "a", "b", [(0, 1), (1, 10 ** 40)], ("way", [(1, True)])), noughts(net))
        self.assertIsNone(bettering(net, "a", "b", noughts(net)))

    def test_a_place_twice(self):
        net = (("a", "b", "c", "d"), (
            tie("a", "b", (1, 1), (1, 1)), tie("b", "c", (1, 1), (2, 1)), tie("c", "b", (1, 1), (1, 1)),
            tie("b", "d", (1, 1), (1, 1)), tie("b", "a", (1, 1), (1, 1)), tie("d", "b", (1, 1), (1, 1))))
        stream = noughts(net)
        self.shown(net, "a", "d", stream, ("way", [(0, False), (3, False)]), True)
        for course in ([(0, False), (1, False), (2, False), (3, False)], [(0, False), (4, False)],
                       [(0, False), (4, False), (0, False), (3, False)],
                       [(0, False), (3, False), (5, False), (3, False)]):
            self.shown(net, "a", "d", stream, ("way", course), False)
        self.shown(net, "a", "d", stream, ("ring", [(1, False), (2, False)], [(3, False)]), True)
        for ring in ([(1, False), (2, False), (1, False), (2, False)], [(1, False), (2, False), (4, False), (0, False)],
                     [(1, False), (2, False), (3, False), (5, False)]):
            self.shown(net, "a", "d", stream, ("ring", ring, [(3, False)]), False)

    def test_beginning_and_ending_elsewhere(self):
        for course in ([], [(0, False)], [(1, False)], [(1, False), (0, False)], [(0, False), (1, True)]):
            self.shown(WAY, "a", "c", noughts(WAY), ("way", course), False)
        self.shown(WAY, "a", "b", noughts(WAY), ("way", [(0, False)]), True)
        self.shown(WAY, "b", "c", noughts(WAY), ("way", [(1, False)]), True)

    def test_wrong_things(self):
        stream = noughts(RING)
        ring, course = RING_THING[1:]
        for thing in (("way", ring, course), ("ring", ring), ("ring", ring, course, []), ("ring", course, ring),
                      ["ring", ring, course], ("ring", tuple(ring), course), ("ring", ring, tuple(course)),
                      ("Ring", ring, course), (True, ring, course), (ring, course), ("ring", None, course),
                      ("ring", ring, None), ("ring", "ab", course), ("ring", [], course), ("ring", ring[:1], course),
                      ("ring", ring, [[2, False], [3, False]]), ("ring", ring, [(2, 0), (3, 0)]),
                      ("ring", ring, [(2, False, "c"), (3, False)]), ("ring", ring, [(2,), (3,)]),
                      ("ring", [(True, False), (False, False)], course), ("ring", [(1, 0), (0, 0)], course),
                      ("ring", [("1", False), ("0", False)], course), ("ring", [1, 0], course),
                      ("ring", [(1, None), (0, None)], course), ("ring", [(-5, False), (-6, False)], course),
                      ("ring", ring, [(2, False), (3, False), (6, False)]), ("ring", ring + ring, course)):
            self.shown(RING, "a", "e", stream, thing, False)
        self.shown(RING, "a", "e", stream, RING_THING, True)

    def test_without_ties(self):
        net = (("a", "b", "c"), ())
        self.assertIsNone(bettering(net, "a", "c", []))
        for thing in JUNK + [("way", []), ("ring", [], [])]:
            self.shown(net, "a", "c", [], thing, False)

    def test_no_way_joins_begin_and_end(self):
        for ties in ((tie("b", "a", (1, 1), (1, 1)),), (tie("a", "c", (9, 1), (9, 1)), tie("c", "d", (1, 1), (1, 1))),
                     (tie("c", "d", (9, 1), (2, 1)), tie("d", "c", (1, 1), (1, 1)))):
            net = (("a", "b", "c", "d"), ties)
            self.assertIsNone(bettering(net, "a", "b", noughts(net)))
            self.assertEqual(all_betterings(net, "a", "b", noughts(net)), [])

    def test_several_ties_between_the_same_two(self):
        net = (("a", "b"), (tie("a", "b", (1, 1), (2, 1)), tie("a", "b", (2, 1), (1, 2)), tie("a", "b", (0, 1), (9, 1)),
                            tie("b", "a", (1, 1), (3, 1))))
        stream = noughts(net)
        for number in (0, 1):
            self.shown(net, "a", "b", stream, ("way", [(number, False)]), True)
        self.shown(net, "a", "b", stream, ("way", [(2, False)]), False)
        self.shown(net, "a", "b", stream, ("ring", [(3, False), (0, False)], []), True)
        self.shown(net, "a", "b", stream, ("ring", [(3, False), (1, False)], []), True)
        # More by tie 0 and less by tie 1.
        self.shown(net, "a", "b", [(0, 1), (1, 1), (0, 1), (0, 1)], ("ring", [(1, True), (0, False)], []), True)
        self.assertEqual(bettered(net, "a", "b", [(0, 1), (1, 1), (0, 1), (0, 1)],
                                  ("ring", [(1, True), (0, False)], [])), [(1, 1), (0, 1), (0, 1), (0, 1)])

    def test_streams_of_any_size(self):
        hair = 10 ** 50
        thing = ("way", [(0, False), (1, False)])
        stream = [as_pair(Fraction(4) - Fraction(1, hair)), as_pair(Fraction(2) - Fraction(1, 2 * hair))]
        self.shown(WAY, "a", "c", stream, thing, True)
        self.assertEqual(bettering(WAY, "a", "c", stream), thing)
        self.assertEqual(bettered(WAY, "a", "c", stream, thing), [(4, 1), (2, 1)])

    def test_wrong_streams_have_none(self):
        thing = ("way", [(0, False), (1, False)])
        for stream in JUNK + [[(1, 1), (1, 1)], [(1, 1)], [(0, 1)] * 3, [(5, 1), (5, 2)]]:
            self.shown(WAY, "a", "c", stream, thing, False)


class Anything(Betterings):

    def test_variants(self):
        cases = (
            (WAY, "a", "c", noughts(WAY), ("way", [(0, False), (1, False)])),
            (AT_END, "a", "c", noughts(AT_END), ("ring", [(0, False), (1, False)], [])),
            (RING, "a", "e", noughts(RING), RING_THING),
            (AT_BEGIN, "a", "c", [(1, 1), (2, 1), (2, 1), (0, 1)], ("ring", [(0, False), (1, False)], [(3, False)])),
            (THROUGH, "a", "e", noughts(THROUGH), ("ring", [(0, False), (1, False)], [(2, False), (3, False)])),
        )
        for net, begin, end, stream, right in cases:
            self.shown(net, begin, end, stream, right, True)
            for thing in variants(right):
                self.shown(net, begin, end, stream, thing, bettering_ok(net, begin, end, stream, thing))

    def test_all_betterings_by_the_dice(self):
        dice = Dice(21)
        seen = {"way": 0, "ring": 0, "at end": 0, "through begin": 0, "back": 0, "none": 0}
        for _ in range(250):
            net = some_net(dice, 4, 6, GAINS)
            if len(net[0]) < 2:
                continue
            begin, end = two_places(dice, net)
            stream = some_keeping(dice, net, begin, end, dice.roll(6))
            told = bettering(net, begin, end, stream)
            right = all_betterings(net, begin, end, stream)
            self.assertEqual(told is None, right == [])
            seen["none"] += told is None
            if told is not None:
                self.assertIn(frozen(told), [frozen(thing) for thing in right])
            for thing in right[:40]:
                self.shown(net, begin, end, stream, thing, True)
                self.betters(net, begin, end, stream, thing)
                seen[thing[0]] += 1
                seen["at end"] += thing[-1] == []
                named = [pair for part in thing[1:] for pair in part]
                seen["back"] += any(back for number, back in named)
                inner = [net[1][number][back] for number, back in named]
                seen["through begin"] += thing[0] == "ring" and begin in inner
                for other in ([], (thing[0],), thing + ([],), ("ring",) + thing[1:], ("way",) + thing[1:],
                              thing[:1] + (thing[1][1:],) + thing[2:], thing[:1] + (thing[1][::-1],) + thing[2:],
                              thing[:1] + (thing[1][1:] + thing[1][:1],) + thing[2:], thing[:-1] + (thing[-1] * 2,)):
                    self.shown(net, begin, end, stream, other, bettering_ok(net, begin, end, stream, other))
        self.assertGreater(min(seen.values()), 20, seen)

    def test_not_for_another_stream(self):
        dice = Dice(22)
        seen = {True: 0, False: 0}
        for _ in range(150):
            net = some_net(dice, 4, 6, GAINS)
            if len(net[0]) < 2:
                continue
            begin, end = two_places(dice, net)
            one, other = [some_keeping(dice, net, begin, end, 4) for _ in range(2)]
            for thing in all_betterings(net, begin, end, one)[:20]:
                right = bettering_ok(net, begin, end, other, thing)
                self.shown(net, begin, end, other, thing, right)
                seen[right] += 1
        self.assertGreater(min(seen.values()), 50, seen)


class TheMost(Betterings):

    def test_none_just_of_the_most(self):
        dice = Dice(23)
        seen = {True: 0, False: 0}
        for _ in range(60):
            net = some_net(dice, 4, 6, GAINS)
            if len(net[0]) < 2:
                continue
            begin, end = two_places(dice, net)
            streams = list(corner_streams(net, begin, end))
            best = max(left_over(net, stream, end) for stream in streams)
            for stream in streams + [some_keeping(dice, net, begin, end) for _ in range(3)]:
                told = bettering(net, begin, end, stream)
                self.assertEqual(told is None, left_over(net, stream, end) == best)
                seen[told is None] += 1
                if told is not None:
                    self.shown(net, begin, end, stream, told, True)
                    self.betters(net, begin, end, stream, told)
        self.assertGreater(min(seen.values()), 100, seen)

    def test_at_the_bounds(self):
        dice = Dice(24)
        rings = 0
        for turn in range(25):
            net = great_net(dice, 60 if turn % 2 else 40)
            value, best = most(net, "a", "j")
            self.assertIsNone(bettering(net, "a", "j", best))
            stream = [(0, 1)] * 24
            for _ in range(12):
                told = bettering(net, "a", "j", stream)
                self.assertEqual(told is None, left_at(net, stream, "j") == value)
                if told is None:
                    break
                rings += told[0] == "ring"
                self.shown(net, "a", "j", stream, told, True)
                stream = self.betters(net, "a", "j", stream, told)
        self.assertGreater(rings, 5)

    def test_between_noughts_and_the_most(self):
        dice = Dice(25)
        for _ in range(40):
            net = some_net(dice, 8, 20, GAINS)
            if len(net[0]) < 2:
                continue
            begin, end = two_places(dice, net)
            value, best = most(net, begin, end)
            half = [as_pair(as_fraction(much) / 2) for much in best]
            self.assertTrue(is_stream(net, half) and keeps(net, half, begin, end))
            told = bettering(net, begin, end, half)
            self.assertEqual(told is None, value == (0, 1))
            if told is not None:
                self.betters(net, begin, end, half, told)


class Own(Betterings):

    def test_what_is_told_and_handed_in(self):
        for net, begin, end in ((WAY, "a", "c"), (RING, "a", "e"), (AT_END, "a", "c"), (AT_BEGIN, "a", "c")):
            check_own(self, lambda stream: bettering(net, begin, end, stream), noughts(net))
            told = bettering(net, begin, end, noughts(net))
            check_own(self, lambda stream, thing: bettered(net, begin, end, stream, thing), noughts(net), told)
            told = bettering(net, begin, end, noughts(net))
            check_own(self, lambda stream, thing: shows_bettering(net, begin, end, stream, thing), noughts(net), told)
        best = most(WAY, "a", "c")[1]
        check_own(self, lambda stream: bettering(WAY, "a", "c", stream), best)

    def test_steps_are_those_of_left_steps(self):
        dice = Dice(26)
        for _ in range(60):
            net = some_net(dice, 6, 12, GAINS)
            if len(net[0]) < 2:
                continue
            begin, end = two_places(dice, net)
            stream = some_keeping(dice, net, begin, end)
            told = bettering(net, begin, end, stream)
            if told is not None:
                left = pairs_of(left_steps(net, stream))
                self.assertTrue(all(pair in left for part in told[1:] for pair in part))


if __name__ == "__main__":
    unittest.main()
