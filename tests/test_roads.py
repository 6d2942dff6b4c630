"""Promises [1], [2], [14] and [15]: a net that changes, and what is told of it."""

import unittest
from fractions import Fraction

from gainroads.cheapest import cheapest, shows_cheapest
from gainroads.errors import AsItIs, GainError, NoEnds, NoPlace, NoTie, NotSoMuch, Taken
from gainroads.most import most, shows_most
from gainroads.roads import Roads
from gainroads.rounds import gaining_round
from helpers import (Dice, as_fraction, as_pair, check_own, frozen, gain_along, great_net, lists_in, net_ok,
                     open_numbers, round_ok, some_net, spoil)

GAINS = [(1, 2), (1, 1), (2, 1), (3, 4), (60, 59), (4, 3), (2, 3)]


def some_roads():
    roads = Roads()
    for name in ("a", "b", "c"):
        roads.add_place(name)
    roads.add_tie("a", "b", (4, 1), (1, 2), (1, 1))
    roads.add_tie("b", "c", (3, 1), (2, 1), (1, 3))
    roads.set_ends("a", "c")
    return roads


def shown(roads):
    """All that a Roads tells of how it stands, but for the most and its like."""
    net = roads.net()
    return frozen([net, roads.ends(), roads.deeds(), [roads.is_shut(number) for number in range(len(net[1]))]])


def build(net, ends=None):
    """A Roads of a net, by as few deeds as may be."""
    roads = Roads()
    for place in net[0]:
        roads.add_place(place)
    for tie in net[1]:
        roads.add_tie(*tie)
    if ends is not None:
        roads.set_ends(*ends)
    return roads


class RoadsTest(unittest.TestCase):

    def refused(self, roads, kind, ask):
        """Refused with just that class, and nothing is changed by it."""
        before = shown(roads)
        for _ in range(2):
            with self.assertRaises(GainError) as caught:
                ask()
            self.assertIs(type(caught.exception), kind)
            self.assertEqual(shown(roads), before)
        return caught.exception


class Deeds(RoadsTest):

    def test_nothing_at_first(self):
        roads = Roads()
        self.assertEqual(frozen(roads.net()), frozen(((), ())))
        self.assertIsNone(roads.ends())
        self.assertEqual(roads.deeds(), 0)
        self.assertIs(roads.back(), False)
        self.assertIsNone(roads.gaining())
        self.refused(roads, NoEnds, roads.most_now)
        self.refused(roads, NoEnds, lambda: roads.cheapest_now((0, 1)))
        for number in (0, 1, -1):
            self.refused(roads, NoTie, lambda: roads.is_shut(number))

    def test_places_and_ties_as_they_came(self):
        roads = Roads()
        for name in ("sea", "a", "mill"):
            self.assertIsNone(roads.add_place(name))
        self.assertEqual(roads.net(), (("sea", "a", "mill"), ()))
        self.assertEqual(roads.add_tie("mill", "sea", (3, 2), (60, 59), (0, 1)), 0)
        self.assertEqual(roads.add_tie("sea", "mill", (0, 1), (1, 1), (5, 1)), 1)
        self.assertEqual(roads.add_tie("mill", "sea", (3, 2), (60, 59), (0, 1)), 2)
        self.assertEqual(roads.net(), (("sea", "a", "mill"), (
            ("mill", "sea", (3, 2), (60, 59), (0, 1)), ("sea", "mill", (0, 1), (1, 1), (5, 1)),
            ("mill", "sea", (3, 2), (60, 59), (0, 1)))))
        self.assertTrue(net_ok(roads.net()))
        self.assertEqual(roads.deeds(), 6)

    def test_taken(self):
        roads = some_roads()
        for name in ("a", "b", "c"):
            self.refused(roads, Taken, lambda: roads.add_place(name))
        roads.add_place("aa")
        self.refused(roads, Taken, lambda: roads.add_place("aa"))
        roads.back()
        roads.add_place("aa")

    def test_no_place(self):
        roads = some_roads()
        for begin, end in (("a", "d"), ("d", "a"), ("d", "e"), ("a", "a"), ("d", "d"), ("ab", "c")):
            self.refused(roads, NoPlace, lambda: roads.add_tie(begin, end, (1, 1), (1, 1), (1, 1)))
            self.refused(roads, NoPlace, lambda: roads.set_ends(begin, end))
        empty = Roads()
        self.refused(empty, NoPlace, lambda: empty.add_tie("a", "b", (1, 1), (1, 1), (1, 1)))
        self.refused(empty, NoPlace, lambda: empty.set_ends("a", "b"))

    def test_no_tie(self):
        roads = some_roads()
        for number in (2, 3, -1, -2, 10 ** 30, -10 ** 30):
            for ask in (lambda: roads.set_most(number, (1, 1)), lambda: roads.set_gain(number, (1, 1)),
                        lambda: roads.set_price(number, (1, 1)), lambda: roads.shut(number),
                        lambda: roads.reopen(number), lambda: roads.is_shut(number)):
                self.refused(roads, NoTie, ask)

    def test_other_parts(self):
        roads = some_roads()
        self.assertIsNone(roads.set_most(0, (7, 2)))
        self.assertIsNone(roads.set_gain(1, (59, 60)))
        self.assertIsNone(roads.set_price(0, (0, 1)))
        self.assertEqual(roads.net()[1], (("a", "b", (7, 2), (1, 2), (0, 1)), ("b", "c", (3, 1), (59, 60), (1, 3))))
        self.assertEqual(roads.deeds(), 9)
        # A part that is as it was is a deed like any other one.
        roads.set_most(0, (7, 2))
        roads.set_ends("a", "c")
        self.assertEqual(roads.deeds(), 11)

    def test_shut_and_reopen(self):
        roads = some_roads()
        before = roads.net()
        self.refused(roads, AsItIs, lambda: roads.reopen(0))
        self.assertIsNone(roads.shut(0))
        self.assertIs(roads.is_shut(0), True)
        self.assertIs(roads.is_shut(1), False)
        self.assertEqual(roads.net()[1], (("a", "b", (0, 1), (1, 2), (1, 1)), before[1][1]))
        self.refused(roads, AsItIs, lambda: roads.shut(0))
        self.assertIsNone(roads.reopen(0))
        self.assertIs(roads.is_shut(0), False)
        self.assertEqual(roads.net(), before)
        self.refused(roads, AsItIs, lambda: roads.reopen(0))

    def test_a_shut_tie_keeps_its_most(self):
        roads = some_roads()
        roads.shut(1)
        roads.set_most(1, (8, 5))
        roads.set_gain(1, (3, 1))
        roads.set_price(1, (9, 1))
        self.assertIs(roads.is_shut(1), True)
        self.assertEqual(roads.net()[1][1], ("b", "c", (0, 1), (3, 1), (9, 1)))
        roads.reopen(1)
        self.assertEqual(roads.net()[1][1], ("b", "c", (8, 5), (3, 1), (9, 1)))

    def test_a_most_of_nought_is_not_shut_by_a_deed(self):
        roads = some_roads()
        roads.set_most(0, (0, 1))
        self.assertIs(roads.is_shut(0), False)
        self.refused(roads, AsItIs, lambda: roads.reopen(0))
        roads.shut(0)
        self.refused(roads, AsItIs, lambda: roads.shut(0))
        roads.reopen(0)
        self.assertEqual(roads.net()[1][0][2], (0, 1))

    def test_ends(self):
        roads = some_roads()
        self.assertEqual(frozen(roads.ends()), frozen(("a", "c")))
        self.assertIsNone(roads.set_ends("c", "b"))
        self.assertEqual(roads.ends(), ("c", "b"))
        self.assertIs(roads.back(), True)
        self.assertEqual(roads.ends(), ("a", "c"))
        self.assertIs(roads.back(), True)
        self.assertIsNone(roads.ends())


class Back(RoadsTest):

    def test_each_deed(self):
        roads = some_roads()
        for deed in (lambda: roads.add_place("d"), lambda: roads.add_tie("c", "a", (1, 1), (1, 1), (0, 1)),
                     lambda: roads.set_most(0, (0, 1)), lambda: roads.set_gain(0, (5, 1)),
                     lambda: roads.set_price(0, (5, 1)), lambda: roads.shut(1), lambda: roads.set_ends("b", "a")):
            before = shown(roads)
            deed()
            self.assertNotEqual(shown(roads), before)
            self.assertIs(roads.back(), True)
            self.assertEqual(shown(roads), before)
        roads.shut(1)
        before = shown(roads)
        roads.reopen(1)
        self.assertIs(roads.back(), True)
        self.assertEqual(shown(roads), before)

    def test_behind_refused_deeds(self):
        roads = some_roads()
        roads.set_most(0, (9, 1))
        for kind, ask in ((Taken, lambda: roads.add_place("a")), (NoTie, lambda: roads.shut(7)),
                          (AsItIs, lambda: roads.reopen(0)), (NoPlace, lambda: roads.set_ends("a", "a")),
                          (NotSoMuch, lambda: roads.cheapest_now((100, 1)))):
            self.refused(roads, kind, ask)
        self.assertIs(roads.back(), True)
        self.assertEqual(roads.net()[1][0][2], (4, 1))

    def test_asks_are_no_deeds(self):
        roads = some_roads()
        before = shown(roads)
        roads.most_now(), roads.cheapest_now((1, 1)), roads.gaining(), roads.twin(), roads.net(), roads.ends()
        self.assertEqual(shown(roads), before)

    def test_to_nothing_and_on(self):
        roads = some_roads()
        for left in range(5, -1, -1):
            self.assertIs(roads.back(), True)
            self.assertEqual(roads.deeds(), left)
        for _ in range(3):
            self.assertIs(roads.back(), False)
            self.assertEqual(shown(roads), shown(Roads()))
        roads.add_place("z")
        self.assertEqual(roads.net(), (("z",), ()))
        self.assertEqual(roads.deeds(), 1)

    def test_a_number_is_given_again(self):
        roads = some_roads()
        self.assertEqual(roads.add_tie("c", "a", (1, 1), (1, 1), (0, 1)), 2)
        roads.shut(2)
        roads.back()
        roads.back()
        self.refused(roads, NoTie, lambda: roads.is_shut(2))
        self.assertEqual(roads.add_tie("c", "b", (1, 1), (1, 1), (0, 1)), 2)
        self.assertIs(roads.is_shut(2), False)


class Model:
    """A Roads once more: the deeds as they came, done anew for each question."""

    def __init__(self):
        self.done = []

    def stand(self):
        places, ties, shuts, ends = [], [], [], None
        for name, given in self.done:
            if name == "add_place":
                places.append(given[0])
            elif name == "add_tie":
                ties.append(list(given))
                shuts.append(False)
            elif name in ("set_most", "set_gain", "set_price"):
                ties[given[0]][("set_most", "set_gain", "set_price").index(name) + 2] = given[1]
            elif name in ("shut", "reopen"):
                shuts[given[0]] = name == "shut"
            else:
                ends = given
        return places, ties, shuts, ends

    def refusal(self, name, given):
        places, ties, shuts, ends = self.stand()
        if name == "add_place":
            return Taken if given[0] in places else None
        if name in ("add_tie", "set_ends"):
            return None if given[0] in places and given[1] in places and given[0] != given[1] else NoPlace
        if not 0 <= given[0] < len(ties):
            return NoTie
        if name in ("shut", "reopen"):
            return AsItIs if shuts[given[0]] == (name == "shut") else None
        return None

    def shown(self):
        places, ties, shuts, ends = self.stand()
        net = (tuple(places), tuple((b, e, (0, 1) if shut else most, gain, price)
                                    for (b, e, most, gain, price), shut in zip(ties, shuts)))
        return frozen([net, ends, len(self.done), shuts])


def some_deed(dice):
    fraction = as_pair(Fraction(dice.roll(6), 1 + dice.roll(3)))
    number = dice.roll(8) - 1
    two = (dice.one_of("abcde"), dice.one_of("abcde"))
    tie = ("add_tie", two + (fraction, dice.one_of(GAINS), as_pair(Fraction(dice.roll(9), 2))))
    return dice.one_of([
        ("add_place", (dice.one_of("abcde"),)), ("set_ends", two), ("set_gain", (number, dice.one_of(GAINS))),
        tie, tie, tie, ("set_most", (number, fraction)), ("set_price", (number, fraction)), ("shut", (number,)),
        ("reopen", (number,)), ("back", ())])


class ByTheDice(RoadsTest):

    def do(self, roads, model, name, given):
        """One deed, told and refused as the model says."""
        if name == "back":
            self.assertIs(roads.back(), model.done != [])
            model.done = model.done[:-1]
            return None
        kind = model.refusal(name, given)
        if kind is not None:
            self.refused(roads, kind, lambda: getattr(roads, name)(*given))
            return kind
        told = getattr(roads, name)(*given)
        self.assertEqual(told, len(model.stand()[1]) if name == "add_tie" else None)
        model.done = model.done + [(name, given)]
        return None

    def test_deeds(self):
        dice = Dice(61)
        kinds = {}
        for turn in range(12):
            roads, model = Roads(), Model()
            for name in "abcd" if turn % 3 else "":
                self.do(roads, model, "add_place", (name,))
            for _ in range(120):
                kind = self.do(roads, model, *some_deed(dice))
                kinds[kind] = kinds.get(kind, 0) + 1
                self.assertEqual(shown(roads), model.shown())
        self.assertEqual(set(kinds), {None, Taken, NoPlace, NoTie, AsItIs})
        self.assertGreater(min(kinds.values()), 30, kinds)

    def test_hundreds_of_deeds_taken_back(self):
        dice = Dice(62)
        roads, model = Roads(), Model()
        history = [shown(roads)]
        while len(history) < 700:
            name, given = some_deed(dice)
            if name not in ("back", "add_tie") or name == "add_tie" and len(model.stand()[1]) < 20:
                if self.do(roads, model, name, given) is None:
                    history.append(shown(roads))
        self.assertEqual(roads.deeds(), 699)
        while len(history) > 1:
            history.pop()
            self.assertIs(roads.back(), True)
            self.assertEqual(shown(roads), history[-1])
        self.assertIs(roads.back(), False)

    def test_a_twin_of_which_one_goes_on(self):
        dice = Dice(63)
        for _ in range(8):
            roads, model = Roads(), Model()
            for _ in range(40):
                self.do(roads, model, *some_deed(dice))
            twin, other = roads.twin(), Model()
            other.done = model.done
            self.assertIs(type(twin), Roads)
            self.assertEqual(shown(twin), shown(roads))
            for _ in range(60):
                self.do(twin, other, *some_deed(dice))
                self.assertEqual(shown(twin), other.shown())
                self.assertEqual(shown(roads), model.shown())
            while roads.back():
                model.done = model.done[:-1]
                self.assertEqual(shown(twin), other.shown())
            self.assertEqual(shown(roads), shown(Roads()))
            while twin.back():
                other.done = other.done[:-1]
                self.assertEqual(shown(twin), other.shown())

    def test_the_net_found_anew(self):
        dice = Dice(64)
        seen = {"most": 0, "no ends": 0, "gaining": 0, "not so much": 0}
        for _ in range(10):
            roads, model = Roads(), Model()
            for name in "abcd":
                self.do(roads, model, "add_place", (name,))
            for _ in range(90):
                self.do(roads, model, *some_deed(dice))
                if dice.roll(2):
                    continue
                net, ends = roads.net(), roads.ends()
                anew = build(net, ends)
                self.assertEqual(frozen(anew.net()), frozen(net))
                self.assertEqual(frozen(roads.gaining()), frozen(anew.gaining()))
                self.assertEqual(frozen(roads.gaining()), frozen(gaining_round(net) if net[0] else None))
                seen["gaining"] += roads.gaining() is not None
                if ends is None:
                    self.refused(roads, NoEnds, roads.most_now)
                    self.refused(roads, NoEnds, lambda: roads.cheapest_now((10 ** 9, 1)))
                    seen["no ends"] += 1
                    continue
                self.tells_the_same(roads, anew, seen)
        self.assertGreater(min(seen.values()), 20, seen)

    def tells_the_same(self, roads, anew, seen):
        net, (begin, end) = roads.net(), roads.ends()
        value, stream, worths = roads.most_now()
        self.assertEqual(frozen(anew.most_now()), frozen((value, stream, worths)))
        self.assertEqual(value, most(net, begin, end)[0])
        self.assertIs(shows_most(net, begin, end, stream, worths), True)
        many = as_pair(as_fraction(value) / 2)
        price, stream, worths = roads.cheapest_now(many)
        self.assertEqual(frozen(anew.cheapest_now(many)), frozen((price, stream, worths)))
        self.assertEqual(price, cheapest(net, begin, end, many)[0])
        self.assertIs(shows_cheapest(net, begin, end, many, stream, worths), True)
        refusal = self.refused(roads, NotSoMuch, lambda: roads.cheapest_now(as_pair(as_fraction(value) + 1)))
        self.assertEqual(refusal.most, value)
        seen["most"] += value != (0, 1)
        seen["not so much"] += 1


class Now(RoadsTest):

    def test_most_now(self):
        roads = some_roads()
        told = roads.most_now()
        self.assertIs(type(told), tuple)
        self.assertEqual(told[:2], ((4, 1), [(4, 1), (2, 1)]))
        self.assertIs(shows_most(roads.net(), "a", "c", told[1], told[2]), True)
        roads.shut(0)
        self.assertEqual(roads.most_now()[0], (0, 1))
        roads.reopen(0)
        roads.set_gain(0, (3, 1))
        self.assertEqual(roads.most_now()[0], (6, 1))

    def test_cheapest_now(self):
        roads = some_roads()
        told = roads.cheapest_now((3, 1))
        self.assertIs(type(told), tuple)
        self.assertEqual(told[:2], ((7, 2), [(3, 1), (3, 2)]))
        self.assertIs(shows_cheapest(roads.net(), "a", "c", (3, 1), told[1], told[2]), True)
        roads.set_price(1, (0, 1))
        self.assertEqual(roads.cheapest_now((3, 1))[0], (3, 1))
        self.assertEqual(roads.cheapest_now((4, 1))[0], (4, 1))
        self.assertEqual(self.refused(roads, NotSoMuch, lambda: roads.cheapest_now((401, 100))).most, (4, 1))

    def test_ends_and_no_ties(self):
        roads = Roads()
        roads.add_place("a")
        self.refused(roads, NoEnds, roads.most_now)
        roads.add_place("b")
        roads.set_ends("b", "a")
        self.assertEqual(roads.most_now()[:2], ((0, 1), []))
        self.assertEqual(roads.cheapest_now((0, 1))[:2], ((0, 1), []))
        self.assertEqual(self.refused(roads, NotSoMuch, lambda: roads.cheapest_now((1, 10 ** 40))).most, (0, 1))
        self.assertIsNone(roads.gaining())

    def test_ends_taken_back(self):
        roads = some_roads()
        roads.most_now()
        roads.back()
        self.refused(roads, NoEnds, roads.most_now)
        self.refused(roads, NoEnds, lambda: roads.cheapest_now((0, 1)))

    def test_gaining(self):
        roads = some_roads()
        self.assertIsNone(roads.gaining())
        roads.add_tie("c", "a", (1, 1), (4, 3), (0, 1))
        told = roads.gaining()
        self.assertTrue(round_ok(roads.net(), told) and gain_along(roads.net(), told) > 1)
        self.assertEqual(told, gaining_round(roads.net()))
        roads.shut(1)
        self.assertIsNone(roads.gaining())
        roads.back()
        self.assertEqual(roads.gaining(), told)
        roads.set_gain(2, (1, 1))
        self.assertIsNone(roads.gaining())
        # Nothing hangs on ends here.
        alone = Roads()
        alone.add_place("a")
        self.assertIsNone(alone.gaining())

    def test_at_the_bounds(self):
        dice = Dice(65)
        for _ in range(4):
            net = great_net(dice)
            roads = build(net, ("a", "j"))
            value, stream, worths = roads.most_now()
            self.assertEqual(value, most(net, "a", "j")[0])
            self.assertIs(shows_most(net, "a", "j", stream, worths), True)
            told = roads.gaining()
            self.assertEqual(frozen(told), frozen(gaining_round(net)))
            self.assertTrue(set(told or []) <= set(open_numbers(net)))


class Own(RoadsTest):

    def test_what_is_told(self):
        roads = some_roads()
        roads.add_tie("c", "a", (1, 1), (4, 3), (0, 1))
        for ask in (roads.most_now, lambda: roads.cheapest_now((3, 1)), lambda: roads.cheapest_now((0, 1)),
                    roads.gaining, roads.net, roads.ends, roads.deeds):
            check_own(self, ask)

    def test_deeds_behind_a_question(self):
        roads = some_roads()
        told = [roads.most_now(), roads.cheapest_now((3, 1)), roads.net(), roads.ends()]
        before = frozen(told)
        roads.set_most(0, (1, 1))
        roads.set_ends("b", "a")
        roads.add_place("d")
        while roads.back():
            self.assertEqual(frozen(told), before)

    def test_a_twin_shares_no_list(self):
        roads = some_roads()
        twin = roads.twin()
        told = [roads.most_now(), twin.most_now(), roads.cheapest_now((1, 1)), twin.cheapest_now((1, 1))]
        lists = [id(some) for some in lists_in(told)]
        self.assertEqual(len(set(lists)), len(lists))
        before = frozen(told[1])
        spoil(told[0])
        self.assertEqual(frozen(twin.most_now()), before)

    def test_two_have_nothing_in_common(self):
        one, other = Roads(), Roads()
        one.add_place("a")
        self.assertEqual(other.net(), ((), ()))
        self.assertEqual(other.deeds(), 0)

    def test_nets_of_others(self):
        dice = Dice(66)
        for _ in range(20):
            net = some_net(dice, 6, 12, GAINS)
            self.assertEqual(frozen(build(net).net()), frozen(net))
            self.assertEqual(build(net).deeds(), len(net[0]) + len(net[1]))


if __name__ == "__main__":
    unittest.main()
