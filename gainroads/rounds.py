"""Rounds that make from nothing, and the greatest gains where there are none."""

from gainroads.errors import Gaining
from gainroads.fractions import compared, is_above_nought, times


def is_shut(tie):
    """Whether nothing can go on a tie."""
    return tie[2] == (0, 1)


def lift_once(net, worths, onward):
    """Lifts the worth of each open tie's begin to what the tie makes of its end's, where that is more.

    Worths maps places to worths, onward each lifted place to the tie that lifted it last; both are changed.
    Tells the place that was lifted last, None where none was.
    """
    lifted = None
    for number, tie in enumerate(net[1]):
        begin, end, most, gain, price = tie
        if is_shut(tie) or end not in worths:
            continue
        worth = times(gain, worths[end])
        if begin not in worths or compared(worth, worths[begin]) > 0:
            worths[begin] = worth
            onward[begin] = number
            lifted = begin
    return lifted


def round_ahead(net, onward, place):
    """The round that one comes into from a place, going ever onward."""
    places = []
    ties = []
    while place not in places:
        places.append(place)
        ties.append(onward[place])
        place = net[1][onward[place]][1]
    return ties[places.index(place):]


def gaining_round(net):
    """A round that gains, None where there is none."""
    worths = {place: (1, 1) for place in net[0]}
    onward = {}
    lifted = None
    for turn in range(len(net[0])):
        lifted = lift_once(net, worths, onward)
        if lifted is None:
            return None
    # A way that comes to no place twice has fewer ties than there are places, so all
    # such ways were counted in the turn ahead: only a round that gains lifts in the last.
    return round_ahead(net, onward, lifted)


def lift_all(net, worths):
    """Lifts worths as far as they go, and tells onward; refused with Gaining where a round gains."""
    gaining = gaining_round(net)
    if gaining is not None:
        raise Gaining(gaining)
    onward = {}
    while lift_once(net, worths, onward) is not None:
        pass
    return onward


def holding_worths(net):
    """For each place the greatest gain of a way of open ties from there; refused with Gaining."""
    worths = {place: (1, 1) for place in net[0]}
    lift_all(net, worths)
    return [worths[place] for place in net[0]]


def holds(tie, worths):
    """Whether a tie is shut, or its gain times its end's worth is at most its begin's."""
    return is_shut(tie) or compared(times(tie[3], worths[tie[1]]), worths[tie[0]]) <= 0


def shows_holding(net, thing):
    """Whether a thing is a list with a worth above 0 for each place that hold every open tie."""
    if not isinstance(thing, list) or len(thing) != len(net[0]):
        return False
    if not all([is_above_nought(worth) for worth in thing]):
        return False
    worths = dict(zip(net[0], thing))
    return all([holds(tie, worths) for tie in net[1]])


def greatest_gain(net, begin, end):
    """The greatest gain of a way of open ties from begin to end, None without one; refused with Gaining."""
    worths = {end: (1, 1)}
    lift_all(net, worths)
    return worths.get(begin)


def best_way(net, begin, end):
    """A way of open ties of the greatest gain from begin to end, None without one; refused with Gaining."""
    worths = {end: (1, 1)}
    onward = lift_all(net, worths)
    if begin not in worths:
        return None
    way = []
    place = begin
    while place != end:
        way.append(onward[place])
        place = net[1][onward[place]][1]
    return way
