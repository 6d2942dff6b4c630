"""What several tests need: wrong things, variants of right ones, nets by the dozen."""

import itertools
import math
import re
from fractions import Fraction


def nested(depth, box):
    thing = 1
    for _ in range(depth):
        thing = box([thing])
    return thing


JUNK = [
    None, True, False, 0, 1, -1, 7, 10 ** 30, "", "a", "b", "1", "1/2", "abc",
    [], (), [[]], [()], ((),), ([],), [None], (None,), [0], (0,), [1], (1,),
    (0, 1), [0, 1], (1, 1), [1, 1], (1, 2), (-1, 2), (2, 4), (0, 2), (1, 0), (1, -1),
    (True, 1), (1, True), (False, 1), ("1", "2"), (1, None), (1, 2, 3), [(1, 1)], ((1, 1),),
    ("a", "b"), ["a", "b"], ["a"], ("a",), [True], [False, True], "ab", (("a",), ()),
    nested(10, list), nested(10, tuple), [nested(9, tuple)], (nested(9, list), nested(9, tuple)),
]


def variants(thing):
    """All things that are like this one but for one part: put otherwise, taken out, or there twice."""
    yield from JUNK
    if isinstance(thing, list):
        yield tuple(thing)
    if isinstance(thing, tuple):
        yield list(thing)
    if isinstance(thing, (list, tuple)):
        box = list if isinstance(thing, list) else tuple
        for at, part in enumerate(thing):
            ahead, behind = list(thing[:at]), list(thing[at + 1:])
            yield box(ahead + behind)
            yield box(ahead + [part, part] + behind)
            for other in variants(part):
                yield box(ahead + [other] + behind)


def frozen(thing):
    """A copy that no change of the thing reaches, and that tells lists from tuples and 1 from True."""
    if isinstance(thing, (list, tuple)):
        return (type(thing).__name__, tuple(frozen(part) for part in thing))
    return (type(thing).__name__, thing)


def as_fraction(pair):
    return Fraction(pair[0], pair[1])


def as_pair(value):
    return (value.numerator, value.denominator)


# The document's words once more, in another way of writing, to hold the program against.

def fraction_ok(thing):
    return (type(thing) is tuple and [type(part) for part in thing] == [int, int]
            and thing[1] >= 1 and math.gcd(*thing) == 1)


def names_ok(thing):
    return (type(thing) is tuple and thing != ()
            and all(type(name) is str and re.fullmatch("[a-z]{1,8}", name) for name in thing)
            and all(thing.count(name) == 1 for name in thing))


def tie_ok(places, thing):
    return (type(thing) is tuple and len(thing) == 5
            and all(type(place) is str and place in places for place in thing[:2]) and thing[0] != thing[1]
            and all(fraction_ok(part) for part in thing[2:])
            and thing[2][0] >= 0 and thing[3][0] >= 1 and thing[4][0] >= 0)


def net_ok(thing):
    return (type(thing) is tuple and len(thing) == 2 and names_ok(thing[0])
            and type(thing[1]) is tuple and all(tie_ok(thing[0], tie) for tie in thing[1]))


class Dice:
    """Even-handed numbers that are the same in every run."""

    def __init__(self, seed):
        self.state = seed

    def roll(self, many):
        self.state = (self.state * 6364136223846793005 + 1442695040888963407) % 2 ** 64
        return (self.state >> 33) % many

    def one_of(self, things):
        return things[self.roll(len(things))]


def some_net(dice, most_places, most_ties, gains):
    """A net by the dice: some ties shut, some beside one another, some of them ways back."""
    places = tuple("abcdefghijkl"[:1 + dice.roll(most_places)])
    ties = []
    for _ in range(dice.roll(most_ties + 1) if len(places) > 1 else 0):
        begin = dice.one_of(places)
        end = dice.one_of([place for place in places if place != begin])
        most = as_pair(Fraction(dice.roll(6), 1 + dice.roll(3)))
        price = as_pair(Fraction(dice.roll(5), 1 + dice.roll(4)))
        ties.append((begin, end, most, dice.one_of(gains), price))
    return (places, tuple(ties))


def some_stream(dice, net):
    """A stream by the dice: some ties empty, some at their most."""
    return [as_pair(as_fraction(tie[2]) * Fraction(dice.roll(5), 4)) for tie in net[1]]


def way_ok(net, thing):
    return (type(thing) is list and all(type(number) is int and number in range(len(net[1])) for number in thing)
            and all(thing.count(number) == 1 for number in thing)
            and all(net[1][thing[at]][1] == net[1][thing[at + 1]][0] for at in range(len(thing) - 1)))


def round_ok(net, thing):
    if not way_ok(net, thing) or len(thing) < 2:
        return False
    begins = [net[1][number][0] for number in thing]
    ends = [net[1][number][1] for number in thing]
    return ends[-1] == begins[0] and all(ends.count(place) == 1 for place in ends)


def ways_of(ties, begins, allowed):
    """All ways along the allowed ties from these places; the empty one once for each."""
    def onward(place, way):
        yield way
        for number in allowed:
            if ties[number][0] == place and number not in way:
                yield from onward(ties[number][1], way + [number])
    for begin in begins:
        yield from onward(begin, [])


def gain_along(net, way):
    gain = Fraction(1)
    for number in way:
        gain *= as_fraction(net[1][number][3])
    return gain


def open_numbers(net):
    return [number for number, tie in enumerate(net[1]) if tie[2][0] > 0]


# Steps, courses and rings once more, by Fractions and by trying all.

def steps_left(net, stream):
    """The steps that a stream leaves, rooms and gains as Fractions."""
    steps = []
    for number, (begin, end, most, gain, price) in enumerate(net[1]):
        much, gain = as_fraction(stream[number]), as_fraction(gain)
        if much < as_fraction(most):
            steps.append((number, False, begin, end, as_fraction(most) - much, gain))
        if much > 0:
            steps.append((number, True, end, begin, much * gain, 1 / gain))
    return steps


def all_courses(steps, place, barred=()):
    """All courses from a place, each with the place it ends at, that come to none of the barred ones."""
    def onward(here, course, seen):
        yield course, here
        for step in steps:
            if step[2] == here and step[3] not in seen:
                yield from onward(step[3], course + [step], seen + [step[3]])
    yield from onward(place, [], [place] + [other for other in barred if other != place])


def all_rings(steps, place):
    """All rings that begin at a place."""
    for course, here in all_courses(steps, place):
        for step in steps:
            if course and step[2] == here and step[3] == place:
                yield course + [step]


def gain_by(steps):
    gain = Fraction(1)
    for step in steps:
        gain *= step[5]
    return gain


def pairs_of(steps):
    return [(step[0], step[1]) for step in steps]


def all_betterings(net, begin, end, stream):
    steps = steps_left(net, stream)
    told = [("way", pairs_of(course)) for course, here in all_courses(steps, begin) if here == end]
    for place in net[0]:
        for ring in all_rings(steps, place):
            if gain_by(ring) > 1:
                for course, here in all_courses(steps, place, [step[2] for step in ring]):
                    if here == end:
                        told.append(("ring", pairs_of(ring), pairs_of(course)))
    return told


def stream_ok(net, thing):
    return (type(thing) is list and len(thing) == len(net[1]) and all(fraction_ok(much) for much in thing)
            and all(0 <= as_fraction(much) <= as_fraction(tie[2]) for much, tie in zip(thing, net[1])))


def left_over(net, stream, place):
    """What a stream leaves at a place, as a Fraction."""
    total = Fraction(0)
    for (begin, end, most, gain, price), much in zip(net[1], stream):
        total += as_fraction(much) * as_fraction(gain) * (end == place) - as_fraction(much) * (begin == place)
    return total


def keeps_ok(net, begin, end, thing):
    return stream_ok(net, thing) and all(
        left_over(net, thing, place) == 0 for place in net[0] if place not in (begin, end))


def worths_ok(net, thing):
    return type(thing) is list and len(thing) == len(net[0]) and all(fraction_ok(worth) for worth in thing)


def price_along(net, stream):
    return sum((as_fraction(tie[4]) * as_fraction(much) for tie, much in zip(net[1], stream)), Fraction(0))


def any_course(dice, steps, begin, end, barred=()):
    """A course by the dice from begin to end, None where it runs into places that lead nowhere."""
    course, here, seen = [], begin, {begin} | set(barred)
    while here != end:
        onward = [step for step in steps if step[2] == here and step[3] not in seen]
        if not onward:
            return None
        course.append(dice.one_of(onward))
        here = course[-1][3]
        seen.add(here)
    return course


def any_ring(dice, steps):
    """A ring by the dice, None where it runs into places that lead nowhere."""
    if not steps:
        return None
    course = [dice.one_of(steps)]
    seen = [course[0][2], course[0][3]]
    while True:
        onward = [step for step in steps if step[2] == seen[-1] and step[:2] != (course[-1][0], not course[-1][1])]
        if not onward:
            return None
        course.append(dice.one_of(onward))
        if course[-1][3] in seen:
            return course[seen.index(course[-1][3]):]
        seen.append(course[-1][3])


def pushed(net, stream, parts, share):
    """The stream with a share of what the rooms let along parts, pairs of a list of steps and what begins there."""
    shares = []
    for steps, much in parts:
        for step in steps:
            shares.append((step, much))
            much *= step[5]
    most = min([step[4] / part for step, part in shares], default=Fraction(0)) * share
    fresh = [as_fraction(much) for much in stream]
    for step, part in shares:
        fresh[step[0]] += -most * part * step[5] if step[1] else most * part
    return [as_pair(much) for much in fresh]


def some_keeping(dice, net, begin, end, turns=8):
    """A stream by the dice that keeps: ways there and back, and rings with what they make sent to an end."""
    stream = [(0, 1)] * len(net[1])
    for _ in range(turns):
        steps = steps_left(net, stream)
        share = Fraction(1 + dice.roll(4), 4)
        first, last = dice.one_of([(begin, end), (begin, end), (end, begin)])
        ring = any_ring(dice, steps) if dice.roll(2) else None
        if ring is None:
            course = any_course(dice, steps, first, last)
            if course:
                stream = pushed(net, stream, [(course, Fraction(1))], share)
        elif gain_by(ring) == 1:
            stream = pushed(net, stream, [(ring, Fraction(1))], share)
        elif gain_by(ring) > 1:
            course = any_course(dice, steps, ring[0][2], last, [step[2] for step in ring])
            if course is not None:
                stream = pushed(net, stream, [(ring, Fraction(1)), (course, gain_by(ring) - 1)], share)
    return stream


# All corners of what is bounded and tied by rows: whoever is the greatest or least is at one of them.

def solved(rows, sums):
    """The one solution of rows of Fractions that make these sums, None where there's none or more than one."""
    many = len(rows[0]) if rows else 0
    table = [list(row) + [total] for row, total in zip(rows, sums)]
    for at in range(many):
        lead = next((row for row in range(at, len(table)) if table[row][at] != 0), None)
        if lead is None:
            return None
        table[at], table[lead] = table[lead], table[at]
        table[at] = [part / table[at][at] for part in table[at]]
        for row in range(len(table)):
            if row != at and table[row][at] != 0:
                by = table[row][at]
                table[row] = [part - by * other for part, other in zip(table[row], table[at])]
    if any(row[-1] != 0 for row in table[many:]):
        return None
    return [row[-1] for row in table[:many]]


def corners_of(rows, sums, mosts):
    """All amounts from 0 to their mosts that make the sums, at most as many as there are rows of them not at a bound.
    """
    free = [at for at, most in enumerate(mosts) if most > 0]
    for size in range(min(len(rows), len(free)) + 1):
        for basic in itertools.combinations(free, size):
            others = [at for at in free if at not in basic]
            for full in itertools.product((0, 1), repeat=len(others)):
                amounts = [Fraction(0)] * len(mosts)
                for at, whole in zip(others, full):
                    amounts[at] = mosts[at] * whole
                rest = [total - sum(part * much for part, much in zip(row, amounts)) for row, total in zip(rows, sums)]
                if size == 0:
                    if not any(rest):
                        yield amounts
                    continue
                some = solved([[row[at] for at in basic] for row in rows], rest)
                if some is not None and all(0 <= much <= mosts[at] for at, much in zip(basic, some)):
                    for at, much in zip(basic, some):
                        amounts[at] = much
                    yield amounts


def corner_streams(net, begin, end, many=None):
    """All corners of the streams that keep, or of those that bring just so many."""
    inner = [place for place in net[0] if place not in (begin, end)] + ([] if many is None else [end])
    rows = [[as_fraction(tie[3]) * (tie[1] == place) - (tie[0] == place) for tie in net[1]] for place in inner]
    sums = [Fraction(0)] * len(inner)
    if many is not None:
        sums[-1] = many
    for amounts in corners_of(rows, sums, [as_fraction(tie[2]) for tie in net[1]]):
        yield [as_pair(much) for much in amounts]


def two_places(dice, net):
    begin = dice.one_of(net[0])
    return begin, dice.one_of([place for place in net[0] if place != begin])


def great_net(dice, most_gain=60):
    """A net at the bounds: ten places, 24 ties, numbers as great as they may be."""
    places = tuple("abcdefghij")
    ties = []
    for at in range(24):
        begin = dice.roll(10)
        end = (begin + 1 + dice.roll(9)) % 10
        most = as_pair(Fraction(10 ** 9 - dice.roll(1000), 1000 - dice.roll(100)))
        gain = as_pair(Fraction(most_gain - dice.roll(most_gain), 60 - dice.roll(20)))
        price = as_pair(Fraction(10 ** 9 - dice.roll(10 ** 9), 1000 - dice.roll(1000)))
        ties.append((places[begin], places[end], most, gain, price))
    return (places, tuple(ties))


def lists_in(thing):
    """All lists in a thing, itself too, each as often as it stands there."""
    if isinstance(thing, list):
        yield thing
    if isinstance(thing, (list, tuple)):
        for part in thing:
            yield from lists_in(part)


def spoil(thing):
    """Changes every list in a thing, the innermost first."""
    for some in reversed(list(lists_in(thing))):
        some.clear()
        some.append("spoilt")


def check_own(test, ask, *given):
    """What is told is told again alike, bears no list twice nor a list that was handed in, and may be changed; what
    is handed in stays as it was, and changing it changes nothing that was told."""
    before = frozen(given)
    told = ask(*given)
    shown = frozen(told)
    test.assertEqual(frozen(given), before)
    again = ask(*given)
    test.assertEqual(frozen(again), shown)
    lists = [id(some) for thing in (told, again, given) for some in lists_in(thing)]
    test.assertEqual(len(set(lists)), len(lists))
    spoil(told)
    test.assertEqual(frozen(again), shown)
    test.assertEqual(frozen(given), before)
    test.assertEqual(frozen(ask(*given)), shown)
    for thing in given:
        spoil(thing)
    test.assertEqual(frozen(again), shown)


# Plans and sendings once more, by Fractions.

def parts_ok(thing, kinds):
    """Whether a thing is a tuple of parts of which the kinds, one for each, are true."""
    return type(thing) is tuple and len(thing) == len(kinds) and all(kind(part) for kind, part in zip(kinds, thing))


def most_ok(thing):
    return fraction_ok(thing) and thing[0] >= 0


def gain_ok(thing):
    return fraction_ok(thing) and thing[0] > 0


def plan_ok(thing):
    if type(thing) is not tuple or len(thing) != 6 or not names_ok(thing[0]) or not names_ok(thing[1]):
        return False

    def place(part):
        return type(part) is str and part in thing[0]

    def stuff(part):
        return type(part) is str and part in thing[1]

    forms = ((place, place, most_ok, gain_ok), (place, stuff, stuff, most_ok, gain_ok), (place, stuff, most_ok),
             (place, stuff, gain_ok))
    for parts, form in zip(thing[2:], forms):
        if type(parts) is not tuple or not all(parts_ok(part, form) for part in parts):
            return False
    return all(tie[0] != tie[1] for tie in thing[2]) and all(turner[1] != turner[2] for turner in thing[3])


def sending_ok(plan, thing):
    if not parts_ok(thing, [lambda part: type(part) is list] * 3):
        return False
    if [len(part) for part in thing] != [len(plan[2]), len(plan[3]), len(plan[4])]:
        return False
    for much, tie in zip(thing[0], plan[2]):
        if type(much) is not list or len(much) != len(plan[1]) or not all(most_ok(part) for part in much):
            return False
        if sum(as_fraction(part) for part in much) > as_fraction(tie[2]):
            return False
    caps = [turner[3] for turner in plan[3]] + [well[2] for well in plan[4]]
    return all(most_ok(much) and as_fraction(much) <= as_fraction(cap) for much, cap in zip(thing[1] + thing[2], caps))


def counted(plan, sending):
    """A dict from (place, stuff) to what comes less what goes."""
    total = {(place, stuff): Fraction(0) for place in plan[0] for stuff in plan[1]}
    for (begin, end, most, gain), much in zip(plan[2], sending[0]):
        for stuff, part in zip(plan[1], much):
            total[begin, stuff] -= as_fraction(part)
            total[end, stuff] += as_fraction(part) * as_fraction(gain)
    for (place, stuff, other, most, gain), much in zip(plan[3], sending[1]):
        total[place, stuff] -= as_fraction(much)
        total[place, other] += as_fraction(much) * as_fraction(gain)
    for (place, stuff, most), much in zip(plan[4], sending[2]):
        total[place, stuff] += as_fraction(much)
    return total


def wished(plan):
    """A dict from (place, stuff) to all that is wished there."""
    total = {(place, stuff): Fraction(0) for place in plan[0] for stuff in plan[1]}
    for place, stuff, amount in plan[5]:
        total[place, stuff] += as_fraction(amount)
    return total


def counts_ok(plan, share, thing):
    if not sending_ok(plan, thing):
        return False
    wishes = wished(plan)
    return all(much == as_fraction(share) * wishes[spot] for spot, much in counted(plan, thing).items())


def plan_noughts(plan):
    return ([[(0, 1)] * len(plan[1]) for _ in plan[2]], [(0, 1)] * len(plan[3]), [(0, 1)] * len(plan[4]))


def some_plan(dice, sizes, gains):
    """A plan by the dice, with at most so many places, stuffs, ties, turners, wells and wishes."""
    places = tuple("abcdef"[:1 + dice.roll(sizes[0])])
    stuffs = tuple("abcd"[:1 + dice.roll(sizes[1])])

    def most(least):
        return as_pair(Fraction(least + dice.roll(7), 1 + dice.roll(3)))

    def two(things):
        one = dice.one_of(things)
        return one, dice.one_of([other for other in things if other != one])

    ties = [two(places) + (most(0), dice.one_of(gains)) for _ in range(dice.roll(sizes[2] + 1)) if len(places) > 1]
    turners = [(dice.one_of(places),) + two(stuffs) + (most(0), dice.one_of(gains))
               for _ in range(dice.roll(sizes[3] + 1)) if len(stuffs) > 1]
    wells = [(dice.one_of(places), dice.one_of(stuffs), most(0)) for _ in range(dice.roll(sizes[4] + 1))]
    wishes = [(dice.one_of(places), dice.one_of(stuffs), most(1)) for _ in range(dice.roll(sizes[5] + 1))]
    return (places, stuffs, tuple(ties), tuple(turners), tuple(wells), tuple(wishes))


def great_plan(dice):
    """A plan at the bounds: six places, four stuffs, all else as many and as great as may be."""
    places, stuffs = tuple("abcdef"), tuple("abcd")

    def most():
        return as_pair(Fraction(10 ** 9 - dice.roll(1000), 1000 - dice.roll(400)))

    def gain():
        return as_pair(Fraction(60 - dice.roll(40), 60 - dice.roll(30)))

    ties, turners = [], []
    for at in range(12):
        begin, stuff = at % 6, dice.roll(4)
        end = (begin + 1 + (dice.roll(5) if at > 5 else 0)) % 6
        ties.append((places[begin], places[end], most(), gain()))
        turners.append((dice.one_of(places), stuffs[stuff], stuffs[(stuff + 1 + dice.roll(3)) % 4], most(), gain()))
    wells = [(dice.one_of(places), dice.one_of(stuffs), most()) for _ in range(8)]
    wishes = [(dice.one_of(places), dice.one_of(stuffs), most()) for _ in range(8)]
    return (places, stuffs, tuple(ties), tuple(turners), tuple(wells), tuple(wishes))


class Drawing:
    """Draws a sending by the dice that meets a share: for each wish some ways from wells, all by the same share."""

    def __init__(self, dice, plan):
        self.dice, self.plan = dice, plan
        self.arcs = [((begin, stuff), (end, stuff), as_fraction(gain), ("tie", number), ("go", number, at))
                     for number, (begin, end, most, gain) in enumerate(plan[2]) for at, stuff in enumerate(plan[1])]
        self.arcs += [((place, stuff), (place, other), as_fraction(gain), ("turner", number), ("turn", number))
                      for number, (place, stuff, other, most, gain) in enumerate(plan[3])]
        self.rooms = {("tie", number): as_fraction(tie[2]) for number, tie in enumerate(plan[2])}
        self.rooms.update({("turner", number): as_fraction(turner[3]) for number, turner in enumerate(plan[3])})
        self.rooms.update({("well", number): as_fraction(well[2]) for number, well in enumerate(plan[4])})
        self.wishes = {spot: amount for spot, amount in wished(plan).items() if amount > 0}

    def way_to(self, spot):
        """Arcs to a spot from one with a well, and the well; None where it runs into spots that nothing leads to."""
        way, seen = [], [spot]
        while True:
            wells = [number for number, well in enumerate(self.plan[4]) if well[:2] == seen[-1]]
            if wells and self.dice.roll(2):
                return way[::-1], self.dice.one_of(wells)
            arcs = [arc for arc in self.arcs if arc[1] == seen[-1] and arc[0] not in seen]
            if not arcs:
                return (way[::-1], self.dice.one_of(wells)) if wells else None
            way.append(self.dice.one_of(arcs))
            seen.append(way[-1][0])

    def push_to(self, spot, goes):
        """Sends some more to a spot, adds it to goes, and tells how much comes."""
        drawn = self.way_to(spot)
        if drawn is None:
            return Fraction(0)
        way, well = drawn
        shares, much = [(("well", well), ("draw", well), Fraction(1))], Fraction(1)
        for begin, end, gain, room, name in way:
            shares.append((room, name, much))
            much *= gain
        begins = min(self.rooms[room] / share for room, name, share in shares if share)
        begins *= Fraction(1 + self.dice.roll(3), 3)
        for room, name, share in shares:
            self.rooms[room] -= begins * share
            goes[name] = goes.get(name, Fraction(0)) + begins * share
        return begins * much

    def drawn(self, turns):
        """A pair (share, total): a dict from names to what goes there, as Fractions."""
        goes = {spot: {} for spot in self.wishes}
        comes = {spot: Fraction(0) for spot in self.wishes}
        for _ in range(turns if self.wishes else 0):
            spot = self.dice.one_of(sorted(self.wishes))
            comes[spot] += self.push_to(spot, goes[spot])
        share = min([comes[spot] / self.wishes[spot] for spot in self.wishes] + [Fraction(1)])
        total = {}
        for spot in self.wishes:
            by = share * self.wishes[spot] / comes[spot] if comes[spot] else Fraction(0)
            for name, much in goes[spot].items():
                total[name] = total.get(name, Fraction(0)) + much * by
        return share, total

    def draw(self, turns):
        """A pair (share, sending)."""
        share, total = self.drawn(turns)

        def told(*name):
            return as_pair(total.get(name, Fraction(0)))

        plan = self.plan
        return as_pair(share), (
            [[told("go", number, at) for at in range(len(plan[1]))] for number in range(len(plan[2]))],
            [told("turn", number) for number in range(len(plan[3]))],
            [told("draw", number) for number in range(len(plan[4]))])


# Days and books once more, by Fractions.

def day_ok(thing):
    if type(thing) is not tuple or len(thing) != 6 or not names_ok(thing[0]):
        return False
    if type(thing[1]) is not int or thing[1] < 1:
        return False

    def place(part):
        return type(part) is str and part in thing[0]

    def hour(part):
        return type(part) is int and 0 <= part < thing[1]

    def late(part):
        return type(part) is int and part >= 0

    def opens(part):
        return type(part) is tuple and all(hour(some) for some in part) and list(part) == sorted(set(part))

    def keep(part):
        return fraction_ok(part) and 0 <= as_fraction(part) <= 1

    forms = ((place, place, most_ok, gain_ok, most_ok, late, opens), (place, most_ok, keep),
             (place, hour, most_ok, most_ok), (place, hour, gain_ok))
    for parts, form in zip(thing[2:], forms):
        if type(parts) is not tuple or not all(parts_ok(part, form) for part in parts):
            return False
    spots = [store[0] for store in thing[3]]
    return all(tie[0] != tie[1] for tie in thing[2]) and all(spots.count(spot) == 1 for spot in spots)


def hourly_ok(day, thing, many):
    return (type(thing) is list and len(thing) == many
            and all(type(row) is list and len(row) == day[1] and all(most_ok(much) for much in row) for row in thing))


def book_ok(day, thing):
    if type(thing) is not tuple or len(thing) != 3 or type(thing[2]) is not list or len(thing[2]) != len(day[4]):
        return False
    if not hourly_ok(day, thing[0], len(day[2])) or not hourly_ok(day, thing[1], len(day[3])):
        return False
    for tie, row in zip(day[2], thing[0]):
        for hour, much in enumerate(row):
            open_then = any(hour == some for some in tie[6]) and hour + tie[5] <= day[1] - 1
            if as_fraction(much) > (as_fraction(tie[2]) if open_then else 0):
                return False
    for store, row in zip(day[3], thing[1]):
        if any(as_fraction(much) > as_fraction(store[1]) for much in row):
            return False
    return all(most_ok(much) and as_fraction(much) <= as_fraction(well[2]) for well, much in zip(day[4], thing[2]))


def hour_sums(day, book, share):
    """A dict from (place, hour) to what comes less what goes and is wished."""
    total = {(place, hour): Fraction(0) for place in day[0] for hour in range(day[1])}
    for (begin, end, most, gain, price, late, opens), row in zip(day[2], book[0]):
        for hour, much in enumerate(row):
            total[begin, hour] -= as_fraction(much)
            if (end, hour + late) in total:
                total[end, hour + late] += as_fraction(much) * as_fraction(gain)
    for (place, most, keep), row in zip(day[3], book[1]):
        for hour, much in enumerate(row):
            total[place, hour] -= as_fraction(much)
            if (place, hour + 1) in total:
                total[place, hour + 1] += as_fraction(much) * as_fraction(keep)
    for (place, hour, most, price), much in zip(day[4], book[2]):
        total[place, hour] += as_fraction(much)
    for place, hour, amount in day[5]:
        total[place, hour] -= as_fraction(share) * as_fraction(amount)
    return total


def adds_ok(day, book, share):
    return book_ok(day, book) and min(hour_sums(day, book, share).values()) >= 0


def paid(day, book):
    total = Fraction(0)
    for tie, row in zip(day[2], book[0]):
        for much in row:
            total += as_fraction(tie[4]) * as_fraction(much)
    for well, much in zip(day[4], book[2]):
        total += as_fraction(well[3]) * as_fraction(much)
    return total


def day_noughts(day):
    return ([[(0, 1)] * day[1] for _ in day[2]], [[(0, 1)] * day[1] for _ in day[3]], [(0, 1)] * len(day[4]))


def copied(thing):
    """A copy of a thing, its lists anew."""
    return type(thing)(copied(part) for part in thing) if isinstance(thing, (list, tuple)) else thing


def put(thing, path, part):
    """A copy with another part at a path."""
    if not path:
        return part
    return type(thing)(put(some, path[1:], part) if at == path[0] else copied(some) for at, some in enumerate(thing))


def some_day(dice, sizes, gains):
    """A day by the dice, with at most so many places, hours, ties, stores, wells and wishes."""
    places = tuple("edcba"[:1 + dice.roll(sizes[0])])
    hours = 1 + dice.roll(sizes[1])

    def most(least):
        return as_pair(Fraction(least + dice.roll(7), 1 + dice.roll(3)))

    ties = []
    for _ in range(dice.roll(sizes[2] + 1) if len(places) > 1 else 0):
        begin = dice.one_of(places)
        end = dice.one_of([place for place in places if place != begin])
        opens = tuple(hour for hour in range(hours) if dice.roll(5))
        ties.append((begin, end, most(0), dice.one_of(gains), most(0), dice.one_of((0, 0, 1, 1, 2, 3, 9)), opens))
    stores = [(place, most(0), dice.one_of(((0, 1), (1, 1), (1, 2), (999, 1000)))) for place in places if dice.roll(2)]
    wells = [(dice.one_of(places), dice.roll(hours), most(0), most(0)) for _ in range(dice.roll(sizes[4] + 1))]
    wishes = [(dice.one_of(places), dice.roll(hours), as_pair(Fraction(1 + dice.roll(5), 1 + dice.roll(9))))
              for _ in range(dice.roll(sizes[5] + 1))]
    return (places, hours, tuple(ties), tuple(stores[:sizes[3]]), tuple(wells), tuple(wishes))


def great_day(dice, small=1):
    """A day at the bounds: five places, eight hours, all else as many and as great as may be, wishes smaller."""
    places = tuple("abcde")

    def most():
        return as_pair(Fraction(10 ** 9 - dice.roll(1000), 1000 - dice.roll(400)))

    def gain():
        return as_pair(Fraction(60 - dice.roll(40), 60 - dice.roll(30)))

    ties = []
    for at in range(8):
        end = places[(at + 1 + (dice.roll(4) if at > 4 else 0)) % 5]
        opens = tuple(hour for hour in range(8) if dice.roll(5))
        ties.append((places[at % 5], end, most(), gain(), most(), dice.roll(3), opens))
    stores = [(place, most(), as_pair(Fraction(dice.roll(1001), 1000))) for place in places[1:]]
    # Early wells and late wishes, so that some can be met.
    wells = [(places[at % 5], dice.roll(3), most(), most()) for at in range(10)]
    wishes = [(dice.one_of(places), 3 + dice.roll(5), as_pair(Fraction(10 ** 9 // small - dice.roll(99), 1 + at * 111)))
              for at in range(10)]
    return (places, 8, tuple(ties), tuple(stores), tuple(wells), tuple(wishes))


class DayDrawing(Drawing):
    """Draws a book by the dice that adds up by a share, likewise."""

    def __init__(self, dice, day):
        self.dice, self.plan = dice, day
        self.arcs, self.rooms = [], {}
        for number, (begin, end, most, gain, price, late, opens) in enumerate(day[2]):
            for hour in opens:
                if hour + late < day[1]:
                    name = ("sent", number, hour)
                    self.arcs.append(((begin, hour), (end, hour + late), as_fraction(gain), name, name))
                    self.rooms[name] = as_fraction(most)
        for number, (place, most, keep) in enumerate(day[3]):
            for hour in range(day[1] - 1):
                name = ("kept", number, hour)
                self.arcs.append(((place, hour), (place, hour + 1), as_fraction(keep), name, name))
                self.rooms[name] = as_fraction(most)
        self.rooms.update({("well", number): as_fraction(well[2]) for number, well in enumerate(day[4])})
        self.wishes = {}
        for place, hour, amount in day[5]:
            self.wishes[place, hour] = self.wishes.get((place, hour), Fraction(0)) + as_fraction(amount)

    def draw(self, turns):
        """A pair (share, book)."""
        share, total = self.drawn(turns)
        day = self.plan

        def told(*name):
            return as_pair(total.get(name, Fraction(0)))

        return as_pair(share), (
            [[told("sent", number, hour) for hour in range(day[1])] for number in range(len(day[2]))],
            [[told("kept", number, hour) for hour in range(day[1])] for number in range(len(day[3]))],
            [told("draw", number) for number in range(len(day[4]))])


def day_rows(day):
    """The names of a book's amounts with their mosts, and for each place and hour its row: what comes less what goes
    for each of an amount."""
    names = [(("sent", number, hour), as_fraction(tie[2])) for number, tie in enumerate(day[2])
             for hour in range(day[1]) if hour in tie[6] and hour + tie[5] < day[1]]
    names += [(("kept", number, hour), as_fraction(store[1])) for number, store in enumerate(day[3])
              for hour in range(day[1])]
    names += [(("drawn", number), as_fraction(well[2])) for number, well in enumerate(day[4])]
    bare = day[:5] + ((),)
    columns = []
    for name, most in names:
        book = day_noughts(day)
        spot = book[("sent", "kept", "drawn").index(name[0])]
        for at in name[1:-1]:
            spot = spot[at]
        spot[name[-1]] = (1, 1)
        columns.append(hour_sums(bare, book, (0, 1)))
    spots = [(place, hour) for place in day[0] for hour in range(day[1])]
    return names, [[column[spot] for column in columns] for spot in spots]


def lifted(day, worths, priced):
    """By how much ties, stores and wells let a day's worths rise, times their mosts."""
    at = {(place, hour): as_fraction(worth) for place, row in zip(day[0], worths) for hour, worth in enumerate(row)}
    total = Fraction(0)
    by = 1 if priced else 0
    for begin, end, most, gain, price, late, opens in day[2]:
        for hour in opens:
            if hour + late <= day[1] - 1:
                lift = as_fraction(gain) * at[end, hour + late] - at[begin, hour] - as_fraction(price) * by
                total += as_fraction(most) * max(lift, 0)
    for place, most, keep in day[3]:
        for hour in range(day[1]):
            lift = as_fraction(keep) * at.get((place, hour + 1), 0) - at[place, hour]
            total += as_fraction(most) * max(lift, 0)
    for place, hour, most, price in day[4]:
        total += as_fraction(most) * max(at[place, hour] - as_fraction(price) * by, 0)
    return total


def wishes_worth(day, worths):
    return sum((as_fraction(amount) * as_fraction(worths[day[0].index(place)][hour])
                for place, hour, amount in day[5]), Fraction(0))


def day_worths_ok(day, thing):
    return (type(thing) is list and len(thing) == len(day[0])
            and all(type(row) is list and len(row) == day[1] and all(most_ok(worth) for worth in row) for row in thing))


def share_shown(day, share, book, worths):
    return (fraction_ok(share) and 0 <= as_fraction(share) <= 1 and adds_ok(day, book, share)
            and day_worths_ok(day, worths)
            and lifted(day, worths, False) + max(1 - wishes_worth(day, worths), 0) == as_fraction(share))


def cheapest_day_shown(day, book, worths):
    return (adds_ok(day, book, (1, 1)) and day_worths_ok(day, worths)
            and wishes_worth(day, worths) - lifted(day, worths, True) == paid(day, book))
