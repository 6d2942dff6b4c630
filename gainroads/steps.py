"""The steps of the price: where, with what is brought, the price for a little more becomes another one."""

from gainroads.curve import price_curve
from gainroads.fractions import compared


def price_steps(net, begin, end):
    """The list of pairs (many, price) between which the price goes up evenly, from 0 to the most's value."""
    corners, sides = price_curve(net, begin, end)
    return [(many, price) for many, price, stream in corners]


def next_price(net, begin, end, many):
    """By how much the price goes up for each of a little more than many; None where many is the most or more."""
    corners, sides = price_curve(net, begin, end)
    for corner, (slope, worths) in zip(corners[1:], sides):
        if compared(many, corner[0]) < 0:
            return slope
    return None
