"""Betterings: ways and rings along the steps that a stream leaves, with which it brings more."""

from gainroads.fractions import added, compared, is_number, least, over, taken, times
from gainroads.left import left_steps
from gainroads.nets import is_stream, keeps
from gainroads.rounds import gaining_round


def courses_to(steps, end):
    """For each place from which a course leads to end one of the fewest steps."""
    courses = {end: []}
    places = [end]
    at = 0
    while at < len(places):
        for number, back, begin, onward, room, gain in steps:
            if onward == places[at] and begin not in courses:
                courses[begin] = [(number, back)] + courses[onward]
                places.append(begin)
        at += 1
    return courses


def gaining_ring(steps, courses):
    """Of the steps between places with courses some that make a round of a gain above 1, None without."""
    near = [step for step in steps if step[3] in courses]
    ties = tuple([(begin, onward, room, gain, (0, 1)) for number, back, begin, onward, room, gain in near])
    numbers = gaining_round((tuple(courses), ties))
    if numbers is None:
        return None
    return [near[number] for number in numbers]


def bettering(net, begin, end, stream):
    """A bettering of a stream that keeps, None where there is none."""
    steps = left_steps(net, stream)
    courses = courses_to(steps, end)
    if begin in courses:
        return ("way", courses[begin])
    ring = gaining_ring(steps, courses)
    if ring is None:
        return None
    # From the place that is nearest to end: none of the course's other places is of the ring then.
    lengths = [len(courses[step[2]]) for step in ring]
    first = lengths.index(min(lengths))
    pairs = [(step[0], step[1]) for step in ring[first:] + ring[:first]]
    return ("ring", pairs, courses[ring[first][2]])


def by_pairs(net, stream):
    """The steps that a stream leaves, by their pairs."""
    return {(step[0], step[1]): step for step in left_steps(net, stream)}


def is_pair(thing):
    """Whether a thing is a pair (number, back), of whatever tie."""
    # Kinds are looked at, since 1 and True would be found as one and the same key.
    return isinstance(thing, tuple) and len(thing) == 2 and is_number(thing[0]) and isinstance(thing[1], bool)


def are_steps(left, thing):
    """Whether a thing is a list of pairs of steps that are left, each next one beginning where the one ahead ends."""
    if not isinstance(thing, list) or not all([is_pair(pair) and pair in left for pair in thing]):
        return False
    return all([left[ahead][3] == left[behind][2] for ahead, behind in zip(thing, thing[1:])])


def is_course(left, thing, begin, end):
    """Whether a thing is a course from begin to end."""
    if not are_steps(left, thing):
        return False
    if len(thing) == 0:
        return begin == end
    places = [begin] + [left[pair][3] for pair in thing]
    return left[thing[0]][2] == begin and places[-1] == end and len(set(places)) == len(places)


def is_gaining_ring(left, thing):
    """Whether a thing is a ring whose gains times one another are above 1."""
    if not are_steps(left, thing) or len(thing) < 2:
        return False
    places = [left[pair][2] for pair in thing]
    if left[thing[-1]][3] != places[0] or len(set(places)) != len(places):
        return False
    return compared(gain_along(left, thing), (1, 1)) > 0


def gain_along(left, pairs):
    """The gains of steps times one another."""
    gain = (1, 1)
    for pair in pairs:
        gain = times(gain, left[pair][5])
    return gain


def is_ring_and_course(left, ring, course, end):
    """Whether these are a ring that gains and a course from its first place to end, and to no other place of it."""
    if not is_gaining_ring(left, ring):
        return False
    places = [left[pair][2] for pair in ring]
    if not is_course(left, course, places[0], end):
        return False
    return all([left[pair][3] not in places for pair in course])


def shows_bettering(net, begin, end, stream, thing):
    """Whether a thing is a bettering of a stream that keeps."""
    if not is_stream(net, stream) or not keeps(net, stream, begin, end) or not isinstance(thing, tuple):
        return False
    left = by_pairs(net, stream)
    if len(thing) == 2 and thing[0] == "way":
        return is_course(left, thing[1], begin, end)
    if len(thing) == 3 and thing[0] == "ring":
        return is_ring_and_course(left, thing[1], thing[2], end)
    return False


def shares_along(left, pairs, much):
    """Pairs with what goes along each of them where so much begins."""
    shares = []
    for pair in pairs:
        shares.append((pair, much))
        much = times(much, left[pair][5])
    return shares


def shares_of(left, thing):
    """The pairs of a bettering with what goes along each of them, where 1 begins along its way or round its ring."""
    if thing[0] == "way":
        return shares_along(left, thing[1], (1, 1))
    beyond = taken(gain_along(left, thing[1]), (1, 1))
    return shares_along(left, thing[1], (1, 1)) + shares_along(left, thing[2], beyond)


def bettered(net, begin, end, stream, thing):
    """The stream with as much more along a bettering as the rooms of its steps let."""
    left = by_pairs(net, stream)
    shares = shares_of(left, thing)
    much = least([over(left[pair][4], share) for pair, share in shares])
    fresh = list(stream)
    for (number, back), share in shares:
        goes = times(much, share)
        if back:
            fresh[number] = taken(fresh[number], over(goes, net[1][number][3]))
        else:
            fresh[number] = added(fresh[number], goes)
    return fresh
