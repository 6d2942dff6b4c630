"""Ways along the ties of a net, and rounds that end where they begin."""

from gainroads.fractions import is_number, least, over, times


def are_ties(net, thing):
    """Whether a thing is a list of numbers of ties, none twice."""
    if not isinstance(thing, list):
        return False
    # Numbers first: only they may be asked of a set.
    if not all([is_number(number) and 0 <= number < len(net[1]) for number in thing]):
        return False
    return len(set(thing)) == len(thing)


def is_way(net, thing):
    """Whether a thing is a way."""
    if not are_ties(net, thing):
        return False
    return all([net[1][ahead][1] == net[1][behind][0] for ahead, behind in zip(thing, thing[1:])])


def is_round(net, thing):
    """Whether a thing is a round."""
    if not is_way(net, thing) or len(thing) < 2:
        return False
    begins = [net[1][number][0] for number in thing]
    return net[1][thing[-1]][1] == begins[0] and len(set(begins)) == len(begins)


def gain_of(net, way):
    """The gains of a way's ties times one another, (1, 1) of none."""
    gain = (1, 1)
    for number in way:
        gain = times(gain, net[1][number][3])
    return gain


def goes_on(net, way, much):
    """What goes on each tie of a way where so much begins."""
    goes = []
    for number in way:
        goes.append(much)
        much = times(much, net[1][number][3])
    return goes


def room_of(net, way):
    """The greatest much that may begin along a way that isn't empty, no tie going above its most."""
    shares = goes_on(net, way, (1, 1))
    return least([over(net[1][number][2], share) for number, share in zip(way, shares)])
