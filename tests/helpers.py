"""What several tests need: wrong things, variants of right ones, nets by the dozen."""

import math
import re
from fractions import Fraction


def nested(depth, box):
    thing = 1
    for _ in range(depth):
        thing = box([thing])
    return thing


JUNK = [
    None, True, False, 0, 1, -1, 7, 10 ** 30, "", "a", "b", "1", "1/2", "abc",
    [], (), [[]], [()], ((),), ([],), [None], (None,), [0], (0,), [1], (1,),
    (0, 1), [0, 1], (1, 1), [1, 1], (1, 2), (-1, 2), (2, 4), (0, 2), (1, 0), (1, -1),
    (True, 1), (1, True), (False, 1), ("1", "2"), (1, None), (1, 2, 3), [(1, 1)], ((1, 1),),
    ("a", "b"), ["a", "b"], ["a"], ("a",), [True], [False, True], "ab", (("a",), ()),
    nested(10, list), nested(10, tuple), [nested(9, tuple)], (nested(9, list), nested(9, tuple)),
]


def variants(thing):
    """All things that are like this one but for one part: put otherwise, taken out, or there twice."""
    yield from JUNK
    if isinstance(thing, list):
        yield tuple(thing)
    if isinstance(thing, tuple):
        yield list(thing)
    if isinstance(thing, (list, tuple)):
        box = list if isinstance(thing, list) else tuple
        for at, part in enumerate(thing):
            ahead, behind = list(thing[:at]), list(thing[at + 1:])
            yield box(ahead + behind)
            yield box(ahead + [part, part] + behind)
            for other in variants(part):
                yield box(ahead + [other] + behind)


def frozen(thing):
    """A copy that no change of the thing reaches, and that tells lists from tuples and 1 from True."""
    if isinstance(thing, (list, tuple)):
        return (type(thing).__name__, tuple(frozen(part) for part in thing))
    return (type(thing).__name__, thing)


def as_fraction(pair):
    return Fraction(pair[0], pair[1])


def as_pair(value):
    return (value.numerator, value.denominator)


# The document's words once more, in another way of writing, to hold the program against.

def fraction_ok(thing):
    return (type(thing) is tuple and [type(part) for part in thing] == [int, int]
            and thing[1] >= 1 and math.gcd(*thing) == 1)


def names_ok(thing):
    return (type(thing) is tuple and thing != ()
            and all(type(name) is str and re.fullmatch("[a-z]{1,8}", name) for name in thing)
            and all(thing.count(name) == 1 for name in thing))


def tie_ok(places, thing):
    return (type(thing) is tuple and len(thing) == 5
            and all(type(place) is str and place in places for place in thing[:2]) and thing[0] != thing[1]
            and all(fraction_ok(part) for part in thing[2:])
            and thing[2][0] >= 0 and thing[3][0] >= 1 and thing[4][0] >= 0)


def net_ok(thing):
    return (type(thing) is tuple and len(thing) == 2 and names_ok(thing[0])
            and type(thing[1]) is tuple and all(tie_ok(thing[0], tie) for tie in thing[1]))


class Dice:
    """Even-handed numbers that are the same in every run."""

    def __init__(self, seed):
        self.state = seed

    def roll(self, many):
        self.state = (self.state * 6364136223846793005 + 1442695040888963407) % 2 ** 64
        return (self.state >> 33) % many

    def one_of(self, things):
        return things[self.roll(len(things))]


def some_net(dice, most_places, most_ties, gains):
    """A net by the dice: some ties shut, some beside one another, some of them ways back."""
    places = tuple("abcdefghijkl"[:1 + dice.roll(most_places)])
    ties = []
    for _ in range(dice.roll(most_ties + 1) if len(places) > 1 else 0):
        begin = dice.one_of(places)
        end = dice.one_of([place for place in places if place != begin])
        most = as_pair(Fraction(dice.roll(6), 1 + dice.roll(3)))
        price = as_pair(Fraction(dice.roll(5), 1 + dice.roll(4)))
        ties.append((begin, end, most, dice.one_of(gains), price))
    return (places, tuple(ties))


def some_stream(dice, net):
    """A stream by the dice: some ties empty, some at their most."""
    return [as_pair(as_fraction(tie[2]) * Fraction(dice.roll(5), 4)) for tie in net[1]]


def way_ok(net, thing):
    return (type(thing) is list and all(type(number) is int and number in range(len(net[1])) for number in thing)
            and all(thing.count(number) == 1 for number in thing)
            and all(net[1][thing[at]][1] == net[1][thing[at + 1]][0] for at in range(len(thing) - 1)))


def round_ok(net, thing):
    if not way_ok(net, thing) or len(thing) < 2:
        return False
    begins = [net[1][number][0] for number in thing]
    ends = [net[1][number][1] for number in thing]
    return ends[-1] == begins[0] and all(ends.count(place) == 1 for place in ends)


def ways_of(ties, begins, allowed):
    """All ways along the allowed ties from these places; the empty one once for each."""
    def onward(place, way):
        yield way
        for number in allowed:
            if ties[number][0] == place and number not in way:
                yield from onward(ties[number][1], way + [number])
    for begin in begins:
        yield from onward(begin, [])


def gain_along(net, way):
    gain = Fraction(1)
    for number in way:
        gain *= as_fraction(net[1][number][3])
    return gain


def open_numbers(net):
    return [number for number, tie in enumerate(net[1]) if tie[2][0] > 0]
