"""The cheapest stream that brings just so much, and the worths that show that none is cheaper."""

from gainroads.curve import price_curve
from gainroads.errors import NotSoMuch
from gainroads.fractions import added, compared, over, sum_of, taken, times
from gainroads.most import are_worths, lifts
from gainroads.nets import is_stream, keeps, left_at, price_of


def between(one, other, share):
    """The stream that lies by a share of the way from one stream to another one."""
    return [added(much, times(share, taken(more, much))) for much, more in zip(one, other)]


def cheapest_with_worths(net, begin, end, many):
    """The lowest price, a stream of it that brings many, and worths that show it; refused with NotSoMuch."""
    corners, sides = price_curve(net, begin, end)
    if compared(many, corners[-1][0]) > 0:
        raise NotSoMuch(corners[-1][0])
    if len(sides) == 0:
        # Nothing can be brought, and nothing costs nothing.
        return ((0, 1), corners[0][2], [(0, 1) for place in net[0]])
    at = 0
    while compared(many, corners[at + 1][0]) > 0:
        at += 1
    low, high = corners[at], corners[at + 1]
    share = over(taken(many, low[0]), taken(high[0], low[0]))
    stream = between(low[2], high[2], share)
    return (price_of(net, stream), stream, sides[at][1])


def cheapest(net, begin, end, many):
    """A pair (price, stream), a stream that brings many, such that none has a lower price; refused with NotSoMuch."""
    price, stream, worths = cheapest_with_worths(net, begin, end, many)
    return (price, stream)


def price_worths(net, begin, end, many):
    """Worths, 0 of begin, of which price_sum is cheapest's price; refused with NotSoMuch."""
    price, stream, worths = cheapest_with_worths(net, begin, end, many)
    return worths


def price_sum(net, end, many, worths):
    """Many times end's worth, less each tie's most times by how much it lifts worths above its price."""
    tolls = []
    for tie, lift in zip(net[1], lifts(net, worths)):
        if compared(lift, tie[4]) > 0:
            tolls.append(times(tie[2], taken(lift, tie[4])))
    return taken(times(many, worths[net[0].index(end)]), sum_of(tolls))


def shows_cheapest(net, begin, end, many, stream, worths):
    """Whether these are a stream that keeps and brings many, and worths, 0 of begin, whose price_sum is its price."""
    if not is_stream(net, stream) or not keeps(net, stream, begin, end) or not are_worths(net, worths):
        return False
    if left_at(net, stream, end) != many or worths[net[0].index(begin)] != (0, 1):
        return False
    return price_of(net, stream) == price_sum(net, end, many, worths)
