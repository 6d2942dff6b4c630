"""The cheapest book by which all of a day's wishes are met."""

from gainroads.days import day_price
from gainroads.dayshare import SHARE
from gainroads.daytable import day_table, share_and_book
from gainroads.errors import Short
from gainroads.simplex import climb

# Less is paid, whatever the share.
THRIFT = ((0, 1), (-1, 1))


def cheapest_table(day):
    """A pair (table, book), a day's table where the share is 1 and the price the lowest; refused with Short."""
    table = day_table(day)
    climb(table, [SHARE, THRIFT])
    share, book = share_and_book(table, day)
    if share != (1, 1):
        raise Short(share)
    return (table, book)


def cheapest_day(day):
    """A pair (price, book), a book that adds up by share 1, such that none has a lower price; refused with Short."""
    table, book = cheapest_table(day)
    return (day_price(day, book), book)
