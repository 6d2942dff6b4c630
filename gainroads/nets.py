"""Nets of places and ties, and the streams on them."""

from gainroads.fractions import compared, is_above_nought, is_from_nought, sum_of, taken, times


def is_name(thing):
    """Whether a thing is a NAME: a text of one to eight letters a to z."""
    if not isinstance(thing, str) or not 1 <= len(thing) <= 8:
        return False
    return all(["a" <= sign <= "z" for sign in thing])


def are_names(thing):
    """Whether a thing is a tuple of unlike NAMEs, one at least."""
    if not isinstance(thing, tuple) or len(thing) == 0:
        return False
    if not all([is_name(name) for name in thing]):
        return False
    return len(set(thing)) == len(thing)


def is_tie(places, thing):
    """Whether a thing is a tie between two of these places."""
    if not isinstance(thing, tuple) or len(thing) != 5:
        return False
    begin, end, most, gain, price = thing
    if begin not in places or end not in places or begin == end:
        return False
    return is_from_nought(most) and is_above_nought(gain) and is_from_nought(price)


def is_net(thing):
    """Whether a thing is a net, of whatever size."""
    if not isinstance(thing, tuple) or len(thing) != 2:
        return False
    places, ties = thing
    if not are_names(places) or not isinstance(ties, tuple):
        return False
    return all([is_tie(places, tie) for tie in ties])


def ties_from(net, place):
    """The rising list of the numbers of the ties that begin at a place."""
    return [number for number, tie in enumerate(net[1]) if tie[0] == place]


def ties_to(net, place):
    """The rising list of the numbers of the ties that end at a place."""
    return [number for number, tie in enumerate(net[1]) if tie[1] == place]


def goes_within(thing, most):
    """Whether a thing is a fraction from 0 to most."""
    return is_from_nought(thing) and compared(thing, most) <= 0


def is_stream(net, thing):
    """Whether a thing is a stream on a net."""
    if not isinstance(thing, list) or len(thing) != len(net[1]):
        return False
    return all([goes_within(much, tie[2]) for much, tie in zip(thing, net[1])])


def left_at(net, stream, place):
    """What comes to a place by a stream less what goes on from there."""
    comes = sum_of([times(stream[number], net[1][number][3]) for number in ties_to(net, place)])
    goes = sum_of([stream[number] for number in ties_from(net, place)])
    return taken(comes, goes)


def price_of(net, stream):
    """Each tie's price times what goes on it, together."""
    return sum_of([times(tie[4], much) for tie, much in zip(net[1], stream)])


def keeps(net, stream, begin, end):
    """Whether a stream leaves 0 at each place but begin and end."""
    return all([left_at(net, stream, place) == (0, 1) for place in net[0] if place not in (begin, end)])
