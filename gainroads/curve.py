"""How the lowest price of a stream goes up with what it brings: evenly from corner to corner, ever more steeply."""

from gainroads.fractions import compared, fraction, least
from gainroads.nets import left_at, price_of
from gainroads.nettable import net_table, worths_at
from gainroads.simplex import amounts_of, climb


def next_slope(table):
    """The least worth of what is brought at which the table's stream no longer is the best, None without."""
    brings, prices = table.goals
    slopes = []
    for at, index in enumerate(table.loose):
        # Goals' rows bear the sign turned, so what is below 0 brings more.
        if table.bounds[index] != 0 and brings[at] < 0:
            slopes.append(fraction(prices[at] * table.goal_units[0], brings[at] * table.goal_units[1]))
    return least(slopes) if len(slopes) > 0 else None


def price_curve(net, begin, end):
    """A pair (corners, sides) of lists.

    Corners are tuples (many, price, stream), many rising from 0 to the most's value, stream a cheapest one.
    Sides, one less, are pairs (slope, worths): how the price goes up from one corner to the next, and worths that
    show all prices between these two.
    """
    table = net_table(net, begin, end)
    corners = [((0, 1), (0, 1), [(0, 1) for tie in net[1]])]
    sides = []
    slope = (0, 1)
    while slope is not None:
        weights = (slope, (-1, 1))
        # Of the streams that are the best while each of what is brought is worth the slope, the one that brings most.
        climb(table, [weights, ((1, 1), (0, 1))])
        stream = amounts_of(table)
        many = left_at(net, stream, end)
        if compared(many, corners[-1][0]) > 0:
            corners.append((many, price_of(net, stream), stream))
            sides.append((slope, worths_at(table, net, begin, end, weights)))
        slope = next_slope(table)
    return (corners, sides)
